"""Many grammars and calls, made by a seeded source, against the slow words of oracle.py."""

import random
import unittest

from oracle import Model, Oracle
from support import (CLASSES, CONFLICTS, END, HUGE, STATES, acts, ask, ask_of, complete, go, items, load, moves, parse,
                     row_of)

SIGNS = [97, 98, 99]


def made_symbol(source, nonterminals, wide):
    if source.random() < 0.45:
        return (0, source.randrange(nonterminals))
    if wide:
        lo = source.randrange(256)
        return (1, lo, source.randrange(lo, 256))
    lo = source.choice(SIGNS)
    return (1, lo, min(source.choice([lo, lo, lo, lo + 1]), SIGNS[-1]))


def made_grammar(source, most_nonterminals, most_rules, most_symbols, wide):
    nonterminals = source.randint(1, most_nonterminals)
    rules = []
    for number in range(source.randint(0, most_rules)):
        size = source.randint(0, most_symbols)
        symbols = [made_symbol(source, nonterminals, wide) for place in range(size)]
        rules.append((source.randrange(nonterminals), symbols))
    return nonterminals, rules


def told(tuples):
    return [0, len(tuples)] + [number for one in tuples for number in one]


def bytes_to_ask(oracle):
    """Both ends of each class, the bytes beside them, the first and the last byte, and the end."""
    found = {0, 255, END}
    for first, last in oracle.classes:
        found |= {first - 1, first, last, last + 1}
    return sorted(found & set(range(257)))


class AgainstTheOracle(unittest.TestCase):
    def compare(self, seed, times, *sizes):
        source = random.Random(seed)
        refused = 0
        for time in range(times):
            nonterminals, rules = made_grammar(source, *sizes)
            oracle = Oracle(nonterminals, rules)
            row = row_of(nonterminals, rules)
            if len(oracle.states) > 128:
                self.assertEqual(ask(load(row)), [[-6]], row)
                refused += 1
            else:
                self.compare_table(oracle, row)
                self.compare_things(oracle, row)
        self.assertLess(refused, times * 3 // 4)

    def compare_table(self, oracle, row):
        calls = [CLASSES, STATES, CONFLICTS]
        expected = [told(oracle.classes), [0, len(oracle.states)], told(oracle.conflicts())]
        for i, state in enumerate(oracle.states):
            rules = oracle.complete(i)
            calls += [items(i), moves(i), complete(i)]
            expected += [told(sorted(state)), told(oracle.moves[i]), [0, len(rules)] + rules]
        self.assertEqual(ask_of(row, *calls), expected, row)

    def compare_things(self, oracle, row):
        asked = bytes_to_ask(oracle)
        if len(asked) * len(oracle.states) > 3000:
            asked = asked[::9] + [END]
        pairs = [(i, b) for i in range(len(oracle.states)) for b in asked]
        found = ask_of(row, *[acts(i, b) for i, b in pairs])
        self.assertEqual(found, [told(oracle.things(i, b)) for i, b in pairs], row)

    def test_small_grammars(self):
        self.compare(1, 400, 3, 5, 3, False)

    def test_grammars_with_wide_ranges(self):
        self.compare(2, 60, 4, 8, 3, True)

    def test_larger_grammars(self):
        self.compare(3, 20, 12, 25, 4, False)

    def test_many_short_rules(self):
        self.compare(4, 12, 20, 60, 1, True)


class ParseAgainstTheOracle(unittest.TestCase):
    def texts(self, source):
        return [[source.choice(SIGNS + [100]) if source.random() < 0.1 else source.choice(SIGNS)
                 for place in range(source.randint(0, 6))] for time in range(6)]

    def test_small_grammars(self):
        source = random.Random(5)
        without_conflicts = 0
        read = 0
        for time in range(1500):
            nonterminals, rules = made_grammar(source, 3, 5, 3, False)
            oracle = Oracle(nonterminals, rules)
            texts = self.texts(source)
            found = ask(load(row_of(nonterminals, rules)), *[parse(text) for text in texts])[1:]
            for text, answer in zip(texts, found):
                self.assertEqual(answer, oracle.parse(text), (nonterminals, rules, text))
                if answer != [-7]:
                    self.assertEqual(answer[0] == 0, oracle.reads(text), (nonterminals, rules, text))
                    read += answer[0] == 0
            without_conflicts += found[0] != [-7]
        # Or else the comparison would have shown nothing.
        self.assertGreater(without_conflicts, 300)
        self.assertGreater(read, 100)


class WholeLines(unittest.TestCase):
    """Lists of up to 100 calls of all ten kinds, with arguments at their edges and beyond."""

    def made_row(self, source):
        row = row_of(*made_grammar(source, 3, 5, 3, source.random() < 0.2))
        spoilt = source.random()
        if spoilt < 0.1:
            row[source.randrange(len(row))] = source.choice([-1, 2, 20, 21, 60, 256, HUGE, -HUGE])
        elif spoilt < 0.2:
            row = row[:source.randrange(len(row))]
        elif spoilt < 0.25:
            row = row + [source.choice([0, 1, -1])]
        return row

    def made_state(self, source):
        return source.choice([-HUGE, -1, HUGE, 128]) if source.random() < 0.1 else source.randrange(8)

    def made_byte(self, source):
        return source.choice([-HUGE, -1, 257, HUGE, 0, 255, 256, 256]) if source.random() < 0.4 else source.choice(SIGNS)

    def made_symbols(self, source):
        numbers = []
        for place in range(source.choice([0, 1, 2, 3, 4, 5, 100, 101] if source.random() < 0.1 else [0, 1, 2, 3])):
            numbers += source.choice([[0, source.randrange(3)], [1, source.choice(SIGNS + [0])]])
        if numbers and source.random() < 0.15:
            numbers[source.randrange(len(numbers))] = source.choice([-1, 2, 256, HUGE, -HUGE])
        if source.random() < 0.1:
            numbers.append(source.choice([0, 1, -1]))
        return numbers

    def made_text(self, source):
        size = source.choice([200, 201]) if source.random() < 0.05 else source.randrange(6)
        text = [source.choice(SIGNS) for place in range(size)]
        if text and source.random() < 0.1:
            text[source.randrange(len(text))] = source.choice([-1, 256, 255, 0, HUGE, -HUGE])
        return text

    def made_call(self, source):
        """A call as its name and arguments, and as the numbers that tell it."""
        i = self.made_state(source)
        b = self.made_byte(source)
        row = self.made_row(source)
        symbols = self.made_symbols(source)
        text = self.made_text(source)
        return source.choice([
            (("load", row), load(row)), (("classes",), CLASSES), (("states",), STATES), (("items", i), items(i)),
            (("moves", i), moves(i)), (("complete", i), complete(i)), (("acts", i, b), acts(i, b)),
            (("go", i, symbols), go(i, symbols)), (("conflicts",), CONFLICTS), (("parse", text), parse(text))])

    def test_lines(self):
        source = random.Random(6)
        heads = {}
        for time in range(250):
            made = [self.made_call(source) for number in range(source.choice([1, 10, 40, 100]))]
            model = Model()
            expected = [model.answer(*call) for call, numbers in made]
            self.assertEqual(ask(*[numbers for call, numbers in made]), expected, made)
            for (call, numbers), answer in zip(made, expected):
                heads.setdefault(call[0], set()).add(answer[0])
        # Or else the comparison would have shown nothing of these (-6 and -8 need larger grammars).
        self.assertEqual(heads, {
            "load": {0, -1, -2}, "classes": {0}, "states": {0}, "items": {0, -4}, "moves": {0, -4},
            "complete": {0, -4}, "acts": {0, -4, -5}, "go": {0, 1, -1, -3, -4, -5}, "conflicts": {0},
            "parse": {0, 1, -1, -3, -7}})


if __name__ == "__main__":
    unittest.main()
