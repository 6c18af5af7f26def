"""Grammars, and the rows of numbers that tell them.

A rule is a pair: its nonterminal, and its symbols in a tuple. A symbol is
(NONTERMINAL, number) or (RANGE, lo, hi), just as it stands in a grammar row.
"""

NONTERMINAL = 0
RANGE = 1

MOST_NONTERMINALS = 20
MOST_RULES = 60
MOST_SYMBOLS = 8
LAST_BYTE = 255
# Stands for the end of a text where a byte might stand.
THE_END = 256


class Grammar:
    def __init__(self, nonterminals, rules):
        self.nonterminals = nonterminals
        self.rules = rules


# None where the row has no symbol at this place.
def read_symbol(row, place, nonterminals):
    head = row[place:place + 3]
    if len(head) >= 2 and head[0] == NONTERMINAL and 0 <= head[1] < nonterminals:
        return (NONTERMINAL, head[1])
    if len(head) == 3 and head[0] == RANGE and 0 <= head[1] <= head[2] <= LAST_BYTE:
        return (RANGE, head[1], head[2])
    return None


# None where the row has no rule at this place.
def read_rule(row, place, nonterminals):
    head = row[place:place + 2]
    if len(head) < 2 or not 0 <= head[0] < nonterminals or not 0 <= head[1] <= MOST_SYMBOLS:
        return None
    symbols = []
    behind = place + 2
    while len(symbols) < head[1]:
        symbol = read_symbol(row, behind, nonterminals)
        if symbol is None:
            return None
        symbols.append(symbol)
        behind = behind + len(symbol)
    return (head[0], tuple(symbols))


# How many numbers tell the rule in a row: a symbol's tuple is as long as the symbol in the row.
def told_length(rule):
    return 2 + sum([len(symbol) for symbol in rule[1]])


# None if the row is no grammar row.
def read_grammar(row):
    if len(row) < 2 or not 1 <= row[0] <= MOST_NONTERMINALS or not 0 <= row[1] <= MOST_RULES:
        return None
    rules = []
    place = 2
    while len(rules) < row[1]:
        rule = read_rule(row, place, row[0])
        if rule is None:
            return None
        rules.append(rule)
        place = place + told_length(rule)
    if place != len(row):
        return None
    return Grammar(row[0], rules)
