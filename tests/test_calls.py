"""Several calls in one list, and that answers() changes nothing and keeps nothing."""

import unittest

from movetables.tables import answers
from support import (CLASSES, STATES, SUM_ROW, TWICE_ROW, ask, complete, items, line_of, load, moves, parse,
                     parted)


class SeveralCalls(unittest.TestCase):
    def test_each_answer_has_its_count_before_it(self):
        given = answers(line_of([STATES, CLASSES, items(9), load(SUM_ROW), moves(0)]))
        self.assertEqual(given, [2, 0, 2, 2, 0, 0, 1, -4, 2, 0, 6, 11, 0, 3, 0, 0, 1, 0, 1, 2, 1, 1, 3])

    def test_what_is_given_back_is_a_new_list_of_whole_numbers(self):
        calls = line_of([load(SUM_ROW), STATES, CLASSES, items(0), moves(0), complete(1), parse(b"a+a"), items(-1)])
        given = answers(calls)
        self.assertIs(type(given), list)
        self.assertIsNot(given, calls)
        self.assertEqual({type(number) for number in given}, {int})

    def test_a_later_load_takes_the_place_of_the_one_before(self):
        found = ask(load(SUM_ROW), items(1), load(TWICE_ROW), CLASSES, items(1), load(SUM_ROW), items(1))
        self.assertEqual(found, [[0, 6], [0, 2, 0, 1, 3, 1], [0, 4], [0, 1, 97, 97],
                                 [0, 4, 0, 0, 0, 1, 1, 0, 2, 1], [0, 6], [0, 2, 0, 1, 3, 1]])

    def test_calls_that_ask_change_nothing(self):
        asking = [STATES, CLASSES, items(0), moves(0), complete(2), parse(b"a"), items(6), moves(-1), parse([256])]
        found = ask(load(SUM_ROW), *(asking * 5))
        for times in range(5):
            self.assertEqual(found[1 + times * len(asking):][:len(asking)], found[1:][:len(asking)])

    def test_a_hundred_calls(self):
        self.assertEqual(ask(*([STATES] * 100)), [[0, 2]] * 100)
        self.assertEqual(ask(*([load(SUM_ROW), load([1, 0])] * 50)), [[0, 6], [0, 2]] * 50)
        longest = [1, 60] + ([0, 8] + [1, 97, 97] * 8) * 60
        calls = [load(longest)] * 10 + [items(0)] * 90
        self.assertLessEqual(len(line_of(calls)), 17000)
        one = [0, 61] + [number for rule in range(61) for number in (rule, 0)]
        self.assertEqual(ask(*calls), [[0, 10]] * 10 + [one] * 90)

    def test_a_row_may_hold_what_looks_like_calls(self):
        self.assertEqual(ask(load([2, 2, 2]), load([]), load([0, 0]), STATES), [[-2], [-2], [-2], [0, 2]])


class NothingChangedNothingKept(unittest.TestCase):
    CALLS = line_of([STATES, load(SUM_ROW), items(0), moves(0), load([-1]), load(TWICE_ROW), moves(1), complete(1),
                     CLASSES, items(4), parse(b"a"), load([1, 0]), parse(b"")])

    def test_the_list_handed_in_stands_unchanged(self):
        calls = list(self.CALLS)
        answers(calls)
        self.assertEqual(calls, self.CALLS)

    def test_the_list_handed_in_is_never_written_to(self):
        class Watched(list):
            def refuse(self, *args, **kwargs):
                raise AssertionError("the list was written to")
            append = extend = insert = pop = remove = clear = sort = reverse = refuse
            __setitem__ = __delitem__ = __iadd__ = __imul__ = refuse

        self.assertEqual(answers(Watched(self.CALLS)), answers(list(self.CALLS)))

    def test_the_same_list_twice_gives_the_same(self):
        self.assertEqual(answers(list(self.CALLS)), answers(list(self.CALLS)))

    def test_what_is_given_back_may_be_changed_without_harm(self):
        first = answers(list(self.CALLS))
        kept = list(first)
        first.clear()
        self.assertEqual(answers(list(self.CALLS)), kept)

    def test_each_list_begins_with_a_new_object(self):
        self.assertEqual(parted(answers(load(SUM_ROW) + STATES))[1], [0, 6])
        self.assertEqual(parted(answers(list(STATES))), [[0, 2]])


if __name__ == "__main__":
    unittest.main()
