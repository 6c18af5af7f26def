"""go: walks over nonterminals and bytes, where they end, and the refusals in their order."""

import unittest

from support import HUGE, STATES, SUM_ROW, ask, ask_of, byte, go, load, non, over, row_of, span

LIST_ROW = row_of(1, [(0, [byte("a"), non(0)]), (0, [byte("a")])])


def gone(row, i, numbers):
    return ask_of(row, go(i, numbers))[0]


class Walks(unittest.TestCase):
    def test_without_symbols(self):
        for i in range(6):
            self.assertEqual(gone(SUM_ROW, i, []), [0, i])

    def test_one_symbol(self):
        self.assertEqual(gone(SUM_ROW, 0, [0, 0]), [0, 1])
        self.assertEqual(gone(SUM_ROW, 0, [0, 1]), [0, 2])
        self.assertEqual(gone(SUM_ROW, 0, [1, 97]), [0, 3])
        self.assertEqual(gone(SUM_ROW, 1, [1, 43]), [0, 4])

    def test_over_nonterminals_and_bytes(self):
        self.assertEqual(gone(SUM_ROW, 0, [0, 0, 1, 43, 0, 1]), [0, 5])
        self.assertEqual(gone(SUM_ROW, 0, [0, 0, 1, 43, 1, 97]), [0, 3])
        self.assertEqual(gone(SUM_ROW, 1, [1, 43, 0, 1]), [0, 5])
        self.assertEqual(gone(SUM_ROW, 4, [0, 1]), [0, 5])

    def test_a_byte_goes_by_its_class(self):
        row = row_of(2, [(0, [span(10, 20), non(1)]), (0, [span(15, 30)]), (1, [span(0, 255)])])
        self.assertEqual([gone(row, 0, [1, b]) for b in (10, 14)], [[0, 2], [0, 2]])
        self.assertEqual([gone(row, 0, [1, b]) for b in (15, 20)], [[0, 3], [0, 3]])
        self.assertEqual([gone(row, 0, [1, b]) for b in (21, 30)], [[0, 4], [0, 4]])
        behind = gone(row, 0, [1, 10, 1, 0])
        self.assertEqual(behind[0], 0)
        self.assertEqual([gone(row, 0, [1, 20, 1, b]) for b in range(256)], [behind] * 256)

    def test_the_highest_nonterminal(self):
        row = row_of(20, [(0, [non(19), non(18)])])
        self.assertEqual(gone(row, 0, [0, 19, 0, 18]), [0, 3])

    def test_100_symbols(self):
        self.assertEqual(gone(LIST_ROW, 0, over("a" * 100)), [0, 2])
        self.assertEqual(gone(LIST_ROW, 0, over("a" * 99, 0)), [0, 3])
        self.assertEqual(gone(LIST_ROW, 0, over("a" * 99 + "b")), [1, 99])


class NoMove(unittest.TestCase):
    def test_over_the_first_symbol(self):
        self.assertEqual(gone(SUM_ROW, 0, [1, 43]), [1, 0])
        self.assertEqual(gone(SUM_ROW, 4, [0, 0]), [1, 0])
        self.assertEqual(gone(SUM_ROW, 5, [0, 0]), [1, 0])

    def test_over_a_later_symbol(self):
        self.assertEqual(gone(SUM_ROW, 0, [0, 0, 1, 97]), [1, 1])
        self.assertEqual(gone(SUM_ROW, 0, [0, 0, 1, 43, 0, 0]), [1, 2])
        self.assertEqual(gone(SUM_ROW, 0, over(0, "+", 1, "+")), [1, 3])

    def test_more_symbols_behind_it(self):
        self.assertEqual(gone(SUM_ROW, 0, over("+", 0, "+", 1)), [1, 0])
        self.assertEqual(gone(SUM_ROW, 0, over(0, "a", "+", 1)), [1, 1])
        self.assertEqual(gone(SUM_ROW, 0, over(0, "+", 0, 0, "+", 1)), [1, 2])

    def test_a_byte_of_no_class(self):
        for b in (0, 42, 44, 96, 98, 255):
            self.assertEqual(gone(SUM_ROW, 0, [1, b]), [1, 0])
            self.assertEqual(gone(SUM_ROW, 0, [0, 0, 1, b]), [1, 1])
            self.assertEqual(gone(SUM_ROW, 0, [0, 0, 1, b, 1, 43, 0, 1]), [1, 1])

    def test_a_nonterminal_that_stands_in_no_rule(self):
        self.assertEqual(gone(row_of(3, [(0, [non(1)])]), 0, [0, 2]), [1, 0])


class Refusals(unittest.TestCase):
    def test_a_number_below_0(self):
        for numbers in ([-1], [0, -1], [-1, 0], [1, 97, 1, -1], [0, 0, -HUGE, 0], [0, 0, 0, 0, -1]):
            self.assertEqual(gone(SUM_ROW, 0, numbers), [-1], numbers)

    def test_200_and_201_numbers(self):
        self.assertEqual(gone(LIST_ROW, 0, [1, 97] * 100), [0, 2])
        self.assertEqual(gone(LIST_ROW, 0, [1, 98] * 100), [1, 0])
        self.assertEqual(gone(LIST_ROW, 0, [1, 97] * 100 + [1]), [-3])
        self.assertEqual(gone(LIST_ROW, 0, [1, 97] * 101), [-3])
        self.assertEqual(gone(LIST_ROW, 0, [1, 97] * 1000), [-3])

    def test_no_such_state(self):
        for i in (-1, -HUGE, 6, 127, 128, HUGE):
            for numbers in ([], [0, 0], [1, 97], [1, 98]):
                self.assertEqual(gone(SUM_ROW, i, numbers), [-4], i)
        self.assertEqual(ask(go(2, []), go(1, [])), [[-4], [0, 1]])

    NO_SYMBOLS = [[0], [1], [2], [0, 0, 0], [0, 0, 1], [0, 0, 1, 43, 1],
                  [2, 0], [3, 0], [HUGE, 0], [2, 97],
                  [0, 2], [0, 3], [0, 20], [0, 97], [0, HUGE],
                  [1, 256], [1, 257], [1, HUGE]]

    def test_a_list_that_does_not_tell_symbols(self):
        for numbers in self.NO_SYMBOLS:
            self.assertEqual(gone(SUM_ROW, 0, numbers), [-5], numbers)

    def test_it_is_told_behind_symbols_too(self):
        # Behind one that is gone over, behind one over which no move leads, behind a byte of no class.
        for ahead in ([0, 0], [1, 43], [1, 98], [0, 0, 1, 97, 1, 97]):
            for numbers in self.NO_SYMBOLS:
                self.assertEqual(gone(SUM_ROW, 0, ahead + numbers), [-5], ahead + numbers)

    def test_it_is_told_ahead_of_symbols_too(self):
        for numbers in ([2, 0, 0, 0], [0, 2, 1, 97], [1, 256, 0, 0]):
            self.assertEqual(gone(SUM_ROW, 0, numbers), [-5], numbers)

    def test_199_numbers_are_no_symbols(self):
        self.assertEqual(gone(LIST_ROW, 0, [1, 97] * 99 + [1]), [-5])

    def test_the_nonterminals_are_those_of_the_grammar_held(self):
        self.assertEqual(ask(go(0, [0, 1]), load(SUM_ROW), go(0, [0, 1]), load([1, 0]), go(0, [0, 1]), go(0, [0, 0])),
                         [[-5], [0, 6], [0, 2], [0, 2], [-5], [0, 1]])

    def test_the_first_that_is_told_is_answered(self):
        too_long = [1, 97] * 101
        below = [1, -1]
        no_symbols = [2, 0]
        self.assertEqual(gone(SUM_ROW, 0, too_long + below), [-1])
        self.assertEqual(gone(SUM_ROW, 0, below + too_long), [-1])
        self.assertEqual(gone(SUM_ROW, 6, below), [-1])
        self.assertEqual(gone(SUM_ROW, 0, no_symbols + below), [-1])
        self.assertEqual(gone(SUM_ROW, 0, [0, 0, -1]), [-1])
        self.assertEqual(gone(SUM_ROW, 6, too_long), [-3])
        self.assertEqual(gone(SUM_ROW, -1, too_long), [-3])
        self.assertEqual(gone(SUM_ROW, 0, too_long + no_symbols), [-3])
        self.assertEqual(gone(SUM_ROW, 0, no_symbols * 101), [-3])
        self.assertEqual(gone(SUM_ROW, 6, no_symbols), [-4])
        self.assertEqual(gone(SUM_ROW, -1, [0]), [-4])
        self.assertEqual(gone(SUM_ROW, HUGE, [0, 0, 1]), [-4])
        self.assertEqual(gone(SUM_ROW, HUGE, too_long + below + no_symbols), [-1])

    def test_a_refusal_leaves_the_object(self):
        refused = [go(0, [-1]), go(0, [1, 97] * 101), go(6, []), go(0, [2, 0])]
        for call in refused:
            self.assertEqual(ask_of(SUM_ROW, call, STATES, go(0, [0, 0]))[1:], [[0, 6], [0, 1]])


if __name__ == "__main__":
    unittest.main()
