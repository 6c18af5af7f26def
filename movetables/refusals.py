"""The refusals, with the numbers that the document gives them."""

WRONG_NUMBER = -1
NO_GRAMMAR_ROW = -2
TOO_LONG = -3
NO_SUCH_STATE = -4
NO_SYMBOL = -5
TOO_MANY_STATES = -6
HAS_CONFLICTS = -7
TOO_MANY_STEPS = -8
