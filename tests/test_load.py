"""load: grammar rows and their edges, the refusals, and the object behind a refusal."""

import unittest

from support import (CLASSES, HUGE, STATES, SUM_ROW, ask, ask_of, byte, complete, items, load, moves, non,
                     parse, row_of, span)


def loaded(row):
    return ask(load(row))[0]


def long_rules(states):
    """Rules of a grammar with just that many states: each symbol of each adds one to the two."""
    rules = []
    left = states - 2
    while left:
        size = min(8, left)
        rules.append((0, [span(len(rules), len(rules))] + [byte("z")] * (size - 1)))
        left -= size
    return rules


def row_with_states(states):
    return row_of(1, long_rules(states))


class Rows(unittest.TestCase):
    def test_an_ordinary_grammar(self):
        row = row_of(2, [(0, [byte("("), non(0), byte(")"), non(1)]), (0, []), (1, [non(0)])])
        self.assertEqual(loaded(row)[0], 0)
        self.assertEqual(ask_of(row, STATES, CLASSES), [[0, 7], [0, 2, 40, 40, 41, 41]])

    def test_rules_that_are_the_same_twice(self):
        found = ask_of(row_of(1, [(0, [byte("a")]), (0, [byte("a")])]), STATES, items(0), items(2))
        self.assertEqual(found, [[0, 3], [0, 3, 0, 0, 1, 0, 2, 0], [0, 2, 0, 1, 1, 1]])

    def test_a_rule_without_symbols(self):
        found = ask_of(row_of(1, [(0, [])]), STATES, items(0), moves(0), complete(0))
        self.assertEqual(found, [[0, 2], [0, 2, 0, 0, 1, 0], [0, 1, 0, 0, 1], [0, 1, 0]])

    def test_nonterminals_1_and_20(self):
        self.assertEqual(loaded([1, 0]), [0, 2])
        self.assertEqual(loaded([20, 0]), [0, 2])
        self.assertEqual(loaded(row_of(20, [(0, [non(19)]), (19, [byte("a")])])), [0, 4])

    def test_nonterminals_0_and_21(self):
        self.assertEqual(loaded([0, 0]), [-2])
        self.assertEqual(loaded([21, 0]), [-2])

    def test_rules_60_and_61(self):
        self.assertEqual(loaded(row_of(1, [(0, [byte("a")])] * 60)), [0, 3])
        self.assertEqual(loaded(row_of(1, [(0, [byte("a")])] * 61)), [-2])

    def test_the_rule_behind_60_rules_is_rule_60(self):
        found = ask_of(row_of(1, [(0, [byte("a")])] * 60), items(1), complete(2))
        self.assertEqual(found, [[0, 1, 60, 1], [0, 60] + list(range(60))])

    def test_symbols_8_and_9(self):
        self.assertEqual(loaded(row_of(1, [(0, [byte("a")] * 8)])), [0, 10])
        self.assertEqual(loaded(row_of(1, [(0, [byte("a")] * 9)])), [-2])
        self.assertEqual(loaded(row_of(1, [(0, [non(0)] * 8)]))[0], 0)
        self.assertEqual(loaded(row_of(1, [(0, [non(0)] * 9)])), [-2])

    def test_the_place_behind_8_symbols(self):
        self.assertEqual(ask_of(row_of(1, [(0, [byte("a")] * 8)]), items(9)), [[0, 1, 0, 8]])

    def test_a_nonterminal_that_is_not_there(self):
        for nonterminal in (2, 3, 20, HUGE):
            self.assertEqual(loaded(row_of(2, [(nonterminal, [])])), [-2])
            self.assertEqual(loaded(row_of(2, [(0, [non(nonterminal)])])), [-2])

    def test_a_symbol_that_is_neither_nonterminal_nor_range(self):
        for kind in (2, 3, HUGE):
            self.assertEqual(loaded([1, 1, 0, 1, kind, 0]), [-2])
            self.assertEqual(loaded([1, 1, 0, 1, kind, 0, 0]), [-2])

    def test_ranges_at_their_edges(self):
        self.assertEqual(loaded(row_of(1, [(0, [span(0, 0)])])), [0, 3])
        self.assertEqual(loaded(row_of(1, [(0, [span(0, 255)])])), [0, 3])
        self.assertEqual(loaded(row_of(1, [(0, [span(255, 255)])])), [0, 3])
        for lo, hi in ((1, 0), (255, 254), (0, 256), (256, 256), (HUGE, HUGE), (0, HUGE), (HUGE, 0)):
            self.assertEqual(loaded(row_of(1, [(0, [span(lo, hi)])])), [-2], (lo, hi))

    def test_every_row_that_is_too_short(self):
        for length in range(len(SUM_ROW)):
            self.assertEqual(loaded(SUM_ROW[:length]), [-2], length)

    def test_a_row_that_is_too_long(self):
        for more in ([0], [1], [0, 0], [0, 1, 1, 97, 97], [HUGE]):
            self.assertEqual(loaded(SUM_ROW + more), [-2])
        self.assertEqual(loaded([1, 0, 0]), [-2])

    def test_counts_that_are_huge(self):
        self.assertEqual(loaded([HUGE, 0]), [-2])
        self.assertEqual(loaded([1, HUGE]), [-2])
        self.assertEqual(loaded([1, 1, 0, HUGE]), [-2])

    def test_the_longest_grammar_row_and_longer_rows(self):
        longest = row_of(1, [(0, [byte("a")] * 8)] * 60)
        self.assertEqual(len(longest), 1562)
        self.assertEqual(loaded(longest), [0, 10])
        self.assertEqual(loaded(longest + [0]), [-2])
        for length in (1999, 2000):
            self.assertEqual(loaded(longest + [0] * (length - 1562)), [-2])
            self.assertEqual(loaded(longest + [0] * (length - 1563) + [-1]), [-1])
            self.assertEqual(loaded([1] * length), [-2])


class Refusals(unittest.TestCase):
    def test_a_number_below_0_at_each_place(self):
        for place in range(len(SUM_ROW)):
            for number in (-1, -HUGE):
                self.assertEqual(loaded(SUM_ROW[:place] + [number] + SUM_ROW[place + 1:]), [-1], place)

    def test_below_0_is_told_ahead_of_no_grammar_row(self):
        for row in ([-1], [-1, 0], [1, -1], [0, 0, -1], [1, 0, -1], [21, -5], [HUGE, -HUGE]):
            self.assertEqual(loaded(row), [-1], row)

    def test_below_0_is_told_ahead_of_too_many_states(self):
        self.assertEqual(loaded(row_with_states(129) + [-1]), [-1])

    def test_no_grammar_row_is_told_ahead_of_too_many_states(self):
        self.assertEqual(loaded(row_with_states(129) + [0]), [-2])

    def test_128_states(self):
        found = ask(load(row_with_states(128)), STATES, items(127), items(128))
        self.assertEqual(found, [[0, 128], [0, 128], [0, 1, 14, 8], [-4]])
        self.assertEqual(loaded(row_with_states(127)), [0, 127])

    def test_more_than_128_states(self):
        for states in (129, 130, 200, 400):
            self.assertEqual(loaded(row_with_states(states)), [-6], states)

    def test_more_states_found_from_the_very_last_one(self):
        # The chain's last state is the last of all: what it leads to is found only from there.
        rules = long_rules(120)
        chain = [(0, [byte("y")] + [byte("z")] * 6)]
        self.assertEqual(loaded(row_of(1, rules + chain)), [0, 127])
        self.assertEqual(loaded(row_of(1, rules + [(0, chain[0][1] + [byte("x")])])), [0, 128])
        self.assertEqual(loaded(row_of(2, rules + [(0, chain[0][1] + [non(1)]), (1, [byte("x")])])), [-6])

    def test_many_states_behind_one(self):
        apart = [(0, [span(4 * k, 4 * k), non(0)]) for k in range(60)]
        self.assertEqual(loaded(row_of(1, apart)), [0, 122])
        # Ranges that overlap all: behind each of the 119 classes lies another state.
        overlapping = [(0, [span(2 * k, 2 * k + 119)]) for k in range(60)]
        self.assertEqual(loaded(row_of(1, overlapping)), [0, 121])
        self.assertEqual(loaded(row_of(1, [(0, [span(2 * k, 2 * k + 119), non(0)]) for k in range(60)])), [-6])


class AsItWas(unittest.TestCase):
    ROWS_REFUSED = [[-1], [], [0, 0], [1, 0, 0], [1, 1, 0, 1, 1, 5, 4], SUM_ROW[:-1], SUM_ROW + [-1],
                    row_with_states(129)]

    def calls(self, states):
        calls = [STATES, CLASSES, parse(b"a+a"), parse(b"")]
        for i in range(-1, states + 1):
            calls += [items(i), moves(i), complete(i)]
        return calls

    def test_the_new_object_stays_new(self):
        calls = self.calls(2)
        for row in self.ROWS_REFUSED:
            found = ask(load(row), *calls)
            self.assertLess(found[0][0], 0)
            self.assertEqual(found[1:], ask(*calls))

    def test_what_was_loaded_stays(self):
        calls = self.calls(6)
        for row in self.ROWS_REFUSED:
            found = ask_of(SUM_ROW, load(row), *calls)
            self.assertLess(found[0][0], 0)
            self.assertEqual(len(found[0]), 1)
            self.assertEqual(found[1:], ask_of(SUM_ROW, *calls))


if __name__ == "__main__":
    unittest.main()
