"""The calls on one object, told and answered by whole numbers.

Call numbers stand as the document has them.
"""

from movetables.doing import all_things, conflicts_among
from movetables.going import go
from movetables.grammar import THE_END, Grammar, read_grammar
from movetables.reading import parse
from movetables.refusals import NO_GRAMMAR_ROW, NO_SUCH_STATE, NO_SYMBOL, TOO_MANY_STATES, WRONG_NUMBER
from movetables.states import has_state, make_table

LOAD = 0
CLASSES = 1
STATES = 2
ITEMS = 3
MOVES = 4
COMPLETE = 5
ACTS = 6
GO = 7
CONFLICTS = 8


# things: what may be done in each state; None as long as nobody has asked since the last load.
class Held:
    def __init__(self):
        self.table = make_table(Grammar(1, []))
        self.things = None


# Takes the numbers of a list one behind the other, and leaves the list as it is.
class Line:
    def __init__(self, numbers):
        self.numbers = numbers
        self.place = 0

    def at_end(self):
        return self.place == len(self.numbers)

    def take(self):
        number = self.numbers[self.place]
        self.place = self.place + 1
        return number

    def take_row(self):
        length = self.take()
        row = self.numbers[self.place:self.place + length]
        self.place = self.place + length
        return row


def load(held, row):
    if min(row, default=0) < 0:
        return [WRONG_NUMBER]
    grammar = read_grammar(row)
    if grammar is None:
        return [NO_GRAMMAR_ROW]
    table = make_table(grammar)
    if table is None:
        return [TOO_MANY_STATES]
    held.table = table
    held.things = None
    return [0, len(table.states)]


# Found when first asked for: it takes longer than the table itself, and is often not asked for.
def things_of(held):
    if held.things is None:
        held.things = all_things(held.table)
    return held.things


# A list of tuples as an answer: how many there are, and the numbers of each.
def told(tuples):
    answer = [0, len(tuples)]
    for one in tuples:
        answer.extend(one)
    return answer


def told_moves(moves):
    return told([(symbol[0], symbol[1], target) for symbol, target in moves.items()])


def answer_of_state(table, call, state):
    if not has_state(table, state):
        return [NO_SUCH_STATE]
    if call == ITEMS:
        return told(table.states[state])
    if call == MOVES:
        return told_moves(table.moves[state])
    return [0, len(table.whole[state])] + table.whole[state]


def acts(held, state, byte):
    if not has_state(held.table, state):
        return [NO_SUCH_STATE]
    if not 0 <= byte <= THE_END:
        return [NO_SYMBOL]
    return told(things_of(held)[state].get(held.table.columns[byte], []))


def answer_of_call(held, line):
    call = line.take()
    if call == LOAD:
        return load(held, line.take_row())
    if call == CLASSES:
        return told(held.table.classes)
    if call == STATES:
        return [0, len(held.table.states)]
    if call in (ITEMS, MOVES, COMPLETE):
        return answer_of_state(held.table, call, line.take())
    if call == ACTS:
        state = line.take()
        return acts(held, state, line.take())
    if call == GO:
        state = line.take()
        return go(held.table, state, line.take_row())
    if call == CONFLICTS:
        return told(conflicts_among(things_of(held)))
    # Nothing else is handed in, so that parse is left.
    return parse(held.table, things_of(held), line.take_row())


def answers(calls):
    held = Held()
    line = Line(calls)
    given = []
    while not line.at_end():
        answer = answer_of_call(held, line)
        given.append(len(answer))
        given.extend(answer)
    return given
