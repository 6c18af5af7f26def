"""The states of a grammar and the moves between them.

An item is a pair: rule and place. A state is the list of its items in order.
"""

from movetables.classes import classes_of, columns_of, rules_over_classes
from movetables.grammar import NONTERMINAL, RANGE

MOST_STATES = 128


# rules: those of the grammar with their ranges told by classes, and rule number R behind them.
# columns: for each byte its class, None if it has none; and how many classes, for THE_END.
# moves: for each state a dict from (NONTERMINAL, number) or (RANGE, class) to a state, in the
# order in which moves are told. whole: for each state the rules that are whole in it.
class Table:
    def __init__(self, nonterminals, rules, classes):
        self.nonterminals = nonterminals
        self.rules = rules
        self.classes = classes
        self.columns = columns_of(classes)
        self.states = []
        self.moves = []
        self.whole = []


# The number of the rule whose symbols are the start alone.
def start_rule(table):
    return len(table.rules) - 1


def has_state(table, state):
    return 0 <= state < len(table.states)


# None for a whole item.
def next_symbol(table, item):
    symbols = table.rules[item[0]][1]
    if item[1] == len(symbols):
        return None
    return symbols[item[1]]


def one_further(item):
    return (item[0], item[1] + 1)


def whole_rules(table, items):
    return [item[0] for item in items if next_symbol(table, item) is None]


def first_items(table, nonterminal):
    return [(number, 0) for number, rule in enumerate(table.rules) if rule[0] == nonterminal]


def closed(table, kernel):
    found = {}
    for item in kernel:
        found[item] = True
    entered = {}
    waiting = list(kernel)
    while waiting:
        symbol = next_symbol(table, waiting.pop())
        if symbol is None or symbol[0] != NONTERMINAL or symbol in entered:
            continue
        entered[symbol] = True
        for item in first_items(table, symbol[1]):
            found[item] = True
            waiting.append(item)
    return sorted(found)


# The items that moves over nonterminals lead to, ahead of closing, by the moves' symbols.
def kernels_over_nonterminals(table, items):
    gathered = {}
    for item in items:
        symbol = next_symbol(table, item)
        if symbol is not None and symbol[0] == NONTERMINAL:
            gathered.setdefault(symbol, []).append(one_further(item))
    kernels = {}
    for symbol in sorted(gathered):
        kernels[symbol] = tuple(gathered[symbol])
    return kernels


# The same for moves over classes.
def kernels_over_classes(table, items):
    spans = []
    for item in items:
        symbol = next_symbol(table, item)
        if symbol is not None and symbol[0] == RANGE:
            spans.append((symbol[1], symbol[2], one_further(item)))
    kernels = {}
    first = min([span[0] for span in spans], default=0)
    last = max([span[1] for span in spans], default=-1)
    for number in range(first, last + 1):
        kernel = [span[2] for span in spans if span[0] <= number <= span[1]]
        if kernel:
            kernels[(RANGE, number)] = tuple(kernel)
    return kernels


# States are told apart by their items ahead of closing: closing adds only items with the place
# 0, and no item that a move leads to has that place, so equal states have equal kernels.
def moves_from(table, items, numbers):
    kernels = kernels_over_nonterminals(table, items)
    kernels.update(kernels_over_classes(table, items))
    found = {}
    for symbol, kernel in kernels.items():
        if kernel not in numbers:
            numbers[kernel] = len(table.states)
            table.states.append(closed(table, kernel))
        found[symbol] = numbers[kernel]
    return found


# Rule number R gets the number behind the grammar's nonterminals as its own, so that no symbol
# names it.
def table_without_states(grammar):
    classes = classes_of(grammar.rules)
    rules = rules_over_classes(grammar.rules, classes)
    rules.append((grammar.nonterminals, ((NONTERMINAL, 0),)))
    return Table(grammar.nonterminals, rules, classes)


# None if the grammar has too many states.
def make_table(grammar):
    table = table_without_states(grammar)
    start = ((start_rule(table), 0),)
    numbers = {start: 0}
    table.states.append(closed(table, start))
    while len(table.moves) < len(table.states):
        if len(table.states) > MOST_STATES:
            return None
        items = table.states[len(table.moves)]
        table.moves.append(moves_from(table, items, numbers))
        table.whole.append(whole_rules(table, items))
    return table
