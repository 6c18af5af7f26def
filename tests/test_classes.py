"""classes: ranges that overlap, touch, lie apart, and reach the last byte."""

import unittest

from support import CLASSES, ask_of, byte, moves, non, pairs, row_of, span


def classes_of(*spans):
    row = row_of(1, [(0, [span(lo, hi)]) for lo, hi in spans])
    return pairs(ask_of(row, CLASSES)[0], 2)


class Classes(unittest.TestCase):
    def test_no_range(self):
        self.assertEqual(ask_of(row_of(1, [(0, [non(0)])]), CLASSES), [[0, 0]])

    def test_one_range(self):
        self.assertEqual(classes_of((10, 20)), [(10, 20)])

    def test_ranges_apart_leave_no_class_between(self):
        self.assertEqual(classes_of((30, 40), (10, 20)), [(10, 20), (30, 40)])

    def test_ranges_with_one_byte_between(self):
        self.assertEqual(classes_of((10, 20), (22, 30)), [(10, 20), (22, 30)])

    def test_ranges_that_touch_stay_two_classes(self):
        self.assertEqual(classes_of((10, 20), (21, 30)), [(10, 20), (21, 30)])

    def test_ranges_that_overlap(self):
        self.assertEqual(classes_of((10, 20), (15, 30)), [(10, 14), (15, 20), (21, 30)])

    def test_ranges_that_share_one_byte(self):
        self.assertEqual(classes_of((10, 20), (20, 30)), [(10, 19), (20, 20), (21, 30)])

    def test_a_range_within_another(self):
        self.assertEqual(classes_of((10, 30), (15, 20)), [(10, 14), (15, 20), (21, 30)])

    def test_ranges_with_the_same_begin_or_end(self):
        self.assertEqual(classes_of((10, 30), (10, 20)), [(10, 20), (21, 30)])
        self.assertEqual(classes_of((10, 30), (20, 30)), [(10, 19), (20, 30)])

    def test_ranges_that_are_the_same(self):
        self.assertEqual(classes_of((10, 30), (10, 30), (10, 30)), [(10, 30)])

    def test_the_first_and_the_last_byte(self):
        self.assertEqual(classes_of((0, 255)), [(0, 255)])
        self.assertEqual(classes_of((0, 0), (255, 255)), [(0, 0), (255, 255)])
        self.assertEqual(classes_of((200, 255), (250, 255)), [(200, 249), (250, 255)])
        self.assertEqual(classes_of((0, 254), (255, 255)), [(0, 254), (255, 255)])

    def test_all_256_bytes_one_class_each(self):
        rules = [(0, [span(8 * k + j, 8 * k + j) for j in range(8)]) for k in range(32)]
        # As they stand these have too many states; behind a nonterminal without rules they have few.
        rules = [(0, [non(1)])] + [(2, symbols) for nonterminal, symbols in rules]
        self.assertEqual(pairs(ask_of(row_of(3, rules), CLASSES)[0], 2), [(b, b) for b in range(256)])

    def test_ranges_of_rules_that_no_state_holds_count_too(self):
        row = row_of(2, [(0, [byte("b")]), (1, [byte("a")])])
        self.assertEqual(ask_of(row, CLASSES, moves(0)), [[0, 2, 97, 97, 98, 98], [0, 2, 0, 0, 1, 1, 1, 2]])


if __name__ == "__main__":
    unittest.main()
