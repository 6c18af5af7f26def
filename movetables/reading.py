"""Reading texts by a table without conflicts."""

from movetables.doing import ACCEPT, MOVE_ON, conflicts_among
from movetables.follow import end_column
from movetables.grammar import LAST_BYTE, NONTERMINAL
from movetables.refusals import HAS_CONFLICTS, TOO_LONG, TOO_MANY_STEPS, WRONG_NUMBER

MOST_BYTES = 200
MOST_STEPS = 4000


# The row of states once the rule is put together; None if no move leads on.
def put_together(table, row, rule):
    kept = row[:len(row) - len(table.rules[rule][1])]
    target = table.moves[kept[-1]].get((NONTERMINAL, table.rules[rule][0]))
    if target is None:
        return None
    return kept + [target]


def read_columns(table, things, columns):
    row = [0]
    place = 0
    rules = []
    for step in range(MOST_STEPS):
        at_place = things[row[-1]].get(columns[place])
        if at_place is None:
            return [1, place]
        # Without conflicts the first thing is the only one.
        thing = at_place[0]
        if thing[0] == ACCEPT:
            return [0, len(rules)] + rules
        if thing[0] == MOVE_ON:
            row.append(thing[1])
            place = place + 1
        else:
            row = put_together(table, row, thing[1])
            if row is None:
                return [1, place]
            rules.append(thing[1])
    return [TOO_MANY_STEPS]


def parse(table, things, text):
    if any([not 0 <= byte <= LAST_BYTE for byte in text]):
        return [WRONG_NUMBER]
    if len(text) > MOST_BYTES:
        return [TOO_LONG]
    if conflicts_among(things):
        return [HAS_CONFLICTS]
    columns = [table.columns[byte] for byte in text] + [end_column(table)]
    return read_columns(table, things, columns)
