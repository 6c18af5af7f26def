"""Many grammars, made by a seeded source, against the slow words of oracle.py."""

import random
import unittest

from oracle import Oracle
from support import CLASSES, STATES, ask, complete, items, load, moves, parse, row_of

SIGNS = [97, 98, 99]


def made_symbol(source, nonterminals, wide):
    if source.random() < 0.45:
        return (0, source.randrange(nonterminals))
    if wide:
        lo = source.randrange(256)
        return (1, lo, source.randrange(lo, 256))
    lo = source.choice(SIGNS)
    return (1, lo, min(source.choice([lo, lo, lo, lo + 1]), SIGNS[-1]))


def made_grammar(source, most_nonterminals, most_rules, most_symbols, wide):
    nonterminals = source.randint(1, most_nonterminals)
    rules = []
    for number in range(source.randint(0, most_rules)):
        size = source.randint(0, most_symbols)
        symbols = [made_symbol(source, nonterminals, wide) for place in range(size)]
        rules.append((source.randrange(nonterminals), symbols))
    return nonterminals, rules


def told(tuples):
    return [0, len(tuples)] + [number for one in tuples for number in one]


def expected(oracle):
    if len(oracle.states) > 128:
        return [[-6]]
    found = [[0, len(oracle.states)], told(oracle.classes), [0, len(oracle.states)]]
    for i, state in enumerate(oracle.states):
        rules = oracle.complete(i)
        found += [told(sorted(state)), told(oracle.moves[i]), [0, len(rules)] + rules]
    return found


def answered(row, states):
    if states > 128:
        return ask(load(row))
    calls = [load(row), CLASSES, STATES]
    for i in range(states):
        calls += [items(i), moves(i), complete(i)]
    return ask(*calls)


class AgainstTheOracle(unittest.TestCase):
    def compare(self, seed, times, *sizes):
        source = random.Random(seed)
        for time in range(times):
            nonterminals, rules = made_grammar(source, *sizes)
            oracle = Oracle(nonterminals, rules)
            row = row_of(nonterminals, rules)
            self.assertEqual(answered(row, len(oracle.states)), expected(oracle), row)

    def test_small_grammars(self):
        self.compare(1, 400, 3, 5, 3, False)

    def test_grammars_with_wide_ranges(self):
        self.compare(2, 150, 4, 8, 3, True)

    def test_larger_grammars(self):
        self.compare(3, 20, 12, 25, 4, False)

    def test_many_short_rules(self):
        self.compare(4, 30, 20, 60, 1, True)


class ParseAgainstTheOracle(unittest.TestCase):
    def texts(self, source):
        return [[source.choice(SIGNS + [100]) if source.random() < 0.1 else source.choice(SIGNS)
                 for place in range(source.randint(0, 6))] for time in range(6)]

    def test_small_grammars(self):
        source = random.Random(5)
        without_conflicts = 0
        read = 0
        for time in range(1500):
            nonterminals, rules = made_grammar(source, 3, 5, 3, False)
            oracle = Oracle(nonterminals, rules)
            texts = self.texts(source)
            found = ask(load(row_of(nonterminals, rules)), *[parse(text) for text in texts])[1:]
            for text, answer in zip(texts, found):
                self.assertEqual(answer, oracle.parse(text), (nonterminals, rules, text))
                if answer != [-7]:
                    self.assertEqual(answer[0] == 0, oracle.reads(text), (nonterminals, rules, text))
                    read += answer[0] == 0
            without_conflicts += found[0] != [-7]
        # Or else the comparison would have shown nothing.
        self.assertGreater(without_conflicts, 300)
        self.assertGreater(read, 100)


if __name__ == "__main__":
    unittest.main()
