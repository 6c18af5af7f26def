"""The calls on one object, told and answered by whole numbers.

Call numbers and refusals stand as the document has them.
"""

from movetables.grammar import Grammar, read_grammar
from movetables.reading import parse
from movetables.states import make_table

LOAD = 0
CLASSES = 1
STATES = 2
ITEMS = 3
MOVES = 4
COMPLETE = 5
ACTS = 6
PARSE = 9

BELOW_ZERO = -1
NO_GRAMMAR_ROW = -2
NO_SUCH_STATE = -4
TOO_MANY_STATES = -6


class CallNotBuilt(Exception):
    pass


class Held:
    def __init__(self):
        self.table = make_table(Grammar(1, []))


# Takes the numbers of a list one behind the other, and leaves the list as it is.
class Line:
    def __init__(self, numbers):
        self.numbers = numbers
        self.place = 0

    def at_end(self):
        return self.place == len(self.numbers)

    def take(self):
        number = self.numbers[self.place]
        self.place = self.place + 1
        return number

    def take_row(self):
        length = self.take()
        row = self.numbers[self.place:self.place + length]
        self.place = self.place + length
        return row


def load(held, row):
    if min(row, default=0) < 0:
        return [BELOW_ZERO]
    grammar = read_grammar(row)
    if grammar is None:
        return [NO_GRAMMAR_ROW]
    table = make_table(grammar)
    if table is None:
        return [TOO_MANY_STATES]
    held.table = table
    return [0, len(table.states)]


# A list of tuples as an answer: how many there are, and the numbers of each.
def told(tuples):
    answer = [0, len(tuples)]
    for one in tuples:
        answer.extend(one)
    return answer


def told_moves(moves):
    return told([(symbol[0], symbol[1], target) for symbol, target in moves.items()])


def answer_of_state(table, call, state):
    if not 0 <= state < len(table.states):
        return [NO_SUCH_STATE]
    if call == ITEMS:
        return told(table.states[state])
    if call == MOVES:
        return told_moves(table.moves[state])
    if call == COMPLETE:
        return [0, len(table.whole[state])] + table.whole[state]
    # Of acts there is so far only the refusal that it shares with the calls above.
    raise CallNotBuilt(call)


def answer_of_call(held, line):
    call = line.take()
    if call == LOAD:
        return load(held, line.take_row())
    if call == CLASSES:
        return told(held.table.classes)
    if call == STATES:
        return [0, len(held.table.states)]
    if call in (ITEMS, MOVES, COMPLETE):
        return answer_of_state(held.table, call, line.take())
    if call == ACTS:
        state = line.take()
        line.take()
        return answer_of_state(held.table, call, state)
    if call == PARSE:
        return parse(held.table, line.take_row())
    raise CallNotBuilt(call)


def answers(calls):
    held = Held()
    line = Line(calls)
    given = []
    while not line.at_end():
        answer = answer_of_call(held, line)
        given.append(len(answer))
        given.extend(answer)
    return given
