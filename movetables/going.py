"""Going the moves over symbols, one behind the other."""

from movetables.grammar import LAST_BYTE, NONTERMINAL, RANGE
from movetables.refusals import NO_SUCH_STATE, NO_SYMBOL, TOO_LONG, WRONG_NUMBER
from movetables.states import has_state

MOST_NUMBERS = 200


def is_symbol(table, kind, number):
    if kind == NONTERMINAL:
        return number < table.nonterminals
    return kind == RANGE and number <= LAST_BYTE


# The symbols as moves have them, over the class in the place of a byte; None if the numbers
# don't tell symbols. A byte of no class stays None there: no move leads over it.
def read_symbols(table, numbers):
    if len(numbers) % 2 != 0:
        return None
    symbols = []
    for place in range(0, len(numbers), 2):
        kind = numbers[place]
        number = numbers[place + 1]
        if not is_symbol(table, kind, number):
            return None
        symbols.append((kind, number if kind == NONTERMINAL else table.columns[number]))
    return symbols


def walk(table, state, symbols):
    here = state
    for number, symbol in enumerate(symbols):
        here = table.moves[here].get(symbol)
        if here is None:
            return [1, number]
    return [0, here]


def go(table, state, numbers):
    if min(numbers, default=0) < 0:
        return [WRONG_NUMBER]
    if len(numbers) > MOST_NUMBERS:
        return [TOO_LONG]
    if not has_state(table, state):
        return [NO_SUCH_STATE]
    symbols = read_symbols(table, numbers)
    if symbols is None:
        return [NO_SYMBOL]
    return walk(table, state, symbols)
