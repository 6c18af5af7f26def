"""Short ways to tell grammars and calls, and to part what is answered."""

from movetables.tables import answers

HUGE = 10 ** 18


def byte(sign):
    return (1, ord(sign), ord(sign))


def span(lo, hi):
    return (1, lo, hi)


def non(number):
    return (0, number)


def row_of(nonterminals, rules):
    """The grammar row of rules that are pairs: a nonterminal, a list of symbols."""
    row = [nonterminals, len(rules)]
    for nonterminal, symbols in rules:
        row += [nonterminal, len(symbols)]
        for symbol in symbols:
            row += symbol
    return row


def load(row):
    return [0, len(row)] + list(row)


CLASSES = [1]
STATES = [2]
CONFLICTS = [8]
END = 256


def items(i):
    return [3, i]


def moves(i):
    return [4, i]


def complete(i):
    return [5, i]


def acts(i, b):
    return [6, i, b]


def go(i, symbols):
    return [7, i, len(symbols)] + list(symbols)


def over(*symbols):
    """The numbers that tell go symbols: a text tells its bytes, a number a nonterminal."""
    numbers = []
    for symbol in symbols:
        if isinstance(symbol, int):
            numbers += [0, symbol]
        else:
            for sign in symbol:
                numbers += [1, ord(sign)]
    return numbers


def parse(text):
    return [9, len(text)] + list(text)


def line_of(calls):
    return [number for call in calls for number in call]


def parted(given):
    """The answers, one list each, of what answers() gives back."""
    found = []
    place = 0
    while place < len(given):
        length = given[place]
        found.append(given[place + 1:place + 1 + length])
        assert len(found[-1]) == length, "an answer is shorter than its count"
        place += 1 + length
    return found


def ask(*calls):
    """The answers to these calls, one list each."""
    line = line_of(calls)
    assert 1 <= len(calls) <= 100 and len(line) <= 17000, "more than may be handed in"
    found = parted(answers(line))
    assert len(found) == len(calls), "not one answer for each call"
    return found


def ask_of(row, *calls):
    """The answers to these calls, each behind a load that must not be refused.

    The calls may be more than go into one list.
    """
    answered = []
    for place in range(0, len(calls), 99):
        found = ask(load(row), *calls[place:place + 99])
        assert found[0][0] == 0, found[0]
        answered += found[1:]
    return answered


def pairs(answer, size):
    """An answer of 0, a count and tuples of this size, as the list of tuples."""
    assert answer[0] == 0 and len(answer) == 2 + size * answer[1], answer
    return [tuple(answer[k:k + size]) for k in range(2, len(answer), size)]


SUM_ROW = [2, 3, 0, 3, 0, 0, 1, 43, 43, 0, 1, 0, 1, 0, 1, 1, 1, 1, 97, 97]
TWICE_ROW = row_of(1, [(0, [non(0), non(0)]), (0, [byte("a")])])
