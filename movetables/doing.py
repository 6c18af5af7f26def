"""What may be done in each state at each column, and the conflicts.

A column is a class, or the end, which stands behind the classes. A thing that may be done is a
pair: MOVE_ON and a state, PUT_TOGETHER and a rule, or ACCEPT and 0.
"""

from movetables.follow import end_column, follow_sets
from movetables.grammar import RANGE
from movetables.states import start_rule

MOVE_ON = 0
PUT_TOGETHER = 1
ACCEPT = 2


def columns_in(bits, end):
    return [column for column in range(end + 1) if (bits >> column) & 1 == 1]


# For each nonterminal the columns that follow it. Behind them the end alone, for the nonterminal
# of rule number R: so accepting is found like putting a rule together.
def columns_that_follow(table):
    end = end_column(table)
    columns = [columns_in(bits, end) for bits in follow_sets(table)]
    columns.append([end])
    return columns


# A dict from columns to the things that may be done there. Whole rules ascend and rule number R
# is the last, so the things stand in the order in which they are told.
def things_in_state(table, columns, state):
    things = {}
    for symbol, target in table.moves[state].items():
        if symbol[0] == RANGE:
            things[symbol[1]] = [(MOVE_ON, target)]
    for rule in table.whole[state]:
        thing = (ACCEPT, 0) if rule == start_rule(table) else (PUT_TOGETHER, rule)
        for column in columns[table.rules[rule][0]]:
            things.setdefault(column, []).append(thing)
    return things


# For each state its dict.
def all_things(table):
    columns = columns_that_follow(table)
    return [things_in_state(table, columns, state) for state in range(len(table.states))]


# Each conflict as its state, its column and how many things may be done there.
def conflicts_among(things):
    conflicts = []
    for state, at_columns in enumerate(things):
        for column in sorted(at_columns):
            if len(at_columns[column]) > 1:
                conflicts.append((state, column, len(at_columns[column])))
    return conflicts
