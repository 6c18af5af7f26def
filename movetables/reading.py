"""Reading texts by a table without conflicts.

A column is a class, or the end, which stands behind the classes. One column more stands for
the bytes that lie in no class: no move leads over it, and it follows nothing.
"""

from movetables.follow import end_column, follow_sets
from movetables.grammar import LAST_BYTE, NONTERMINAL, RANGE
from movetables.states import start_rule

MOST_BYTES = 200
MOST_STEPS = 4000

MOVE_ON = 0
PUT_TOGETHER = 1
ACCEPT = 2

NOT_A_BYTE = -1
TOO_MANY_BYTES = -3
CONFLICTS = -7
TOO_MANY_STEPS = -8


# The columns at which a rule that is whole may be put together (rule number R: accepted).
def columns_of_whole(table, follow, rule):
    if rule == start_rule(table):
        return 1 << end_column(table)
    return follow[table.rules[rule][0]]


# Over a class leads one move at most, so only a whole rule can make a conflict.
def state_has_conflict(table, follow, state):
    taken = sum([1 << symbol[1] for symbol in table.moves[state] if symbol[0] == RANGE])
    for rule in table.whole[state]:
        columns = columns_of_whole(table, follow, rule)
        if taken & columns != 0:
            return True
        taken = taken | columns
    return False


def has_conflicts(table, follow):
    return any([state_has_conflict(table, follow, state) for state in range(len(table.states))])


# What may be done, as a pair: MOVE_ON and a state, PUT_TOGETHER and a rule, or ACCEPT and 0;
# None if nothing. Without conflicts the first thing found is the only one.
def thing_to_do(table, follow, state, column):
    target = table.moves[state].get((RANGE, column))
    if target is not None:
        return (MOVE_ON, target)
    for rule in table.whole[state]:
        if (columns_of_whole(table, follow, rule) >> column) & 1 == 1:
            return (ACCEPT, 0) if rule == start_rule(table) else (PUT_TOGETHER, rule)
    return None


# The row of states once the rule is put together; None if no move leads on.
def put_together(table, row, rule):
    kept = row[:len(row) - len(table.rules[rule][1])]
    target = table.moves[kept[-1]].get((NONTERMINAL, table.rules[rule][0]))
    if target is None:
        return None
    return kept + [target]


# The columns of a text's bytes, and the end behind them.
def columns_of_text(table, text):
    column_of = [end_column(table) + 1] * (LAST_BYTE + 1)
    for number, bounds in enumerate(table.classes):
        for byte in range(bounds[0], bounds[1] + 1):
            column_of[byte] = number
    return [column_of[byte] for byte in text] + [end_column(table)]


def read_columns(table, follow, columns):
    row = [0]
    place = 0
    rules = []
    for step in range(MOST_STEPS):
        thing = thing_to_do(table, follow, row[-1], columns[place])
        if thing is None:
            return [1, place]
        if thing[0] == ACCEPT:
            return [0, len(rules)] + rules
        if thing[0] == MOVE_ON:
            row.append(thing[1])
            place = place + 1
        else:
            row = put_together(table, row, thing[1])
            if row is None:
                return [1, place]
            rules.append(thing[1])
    return [TOO_MANY_STEPS]


def parse(table, text):
    if any([not 0 <= byte <= LAST_BYTE for byte in text]):
        return [NOT_A_BYTE]
    if len(text) > MOST_BYTES:
        return [TOO_MANY_BYTES]
    follow = follow_sets(table)
    if has_conflicts(table, follow):
        return [CONFLICTS]
    return read_columns(table, follow, columns_of_text(table, text))
