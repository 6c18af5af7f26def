"""Several calls in one list, and that answers() changes nothing and keeps nothing."""

import unittest

from movetables.tables import answers
from support import (CLASSES, CONFLICTS, END, HUGE, STATES, SUM_ROW, TWICE_ROW, acts, ask, ask_of, byte, complete, go,
                     items, line_of, load, moves, non, parse, parted, row_of, span)

TOO_MANY_STATES = row_of(1, [(0, [span(k, k)] + [byte("z")] * 7) for k in range(16)])
SLOW_ROW = row_of(6, [(0, [non(1)] * 7 + [byte("a")])] + [(k, [non(k + 1)] * 8) for k in range(1, 5)] + [(5, [])])


class SeveralCalls(unittest.TestCase):
    def test_each_answer_has_its_count_before_it(self):
        given = answers(line_of([STATES, CLASSES, items(9), load(SUM_ROW), moves(0)]))
        self.assertEqual(given, [2, 0, 2, 2, 0, 0, 1, -4, 2, 0, 6, 11, 0, 3, 0, 0, 1, 0, 1, 2, 1, 1, 3])

    def test_all_ten_calls_in_one_list(self):
        calls = [load(SUM_ROW), CLASSES, STATES, items(1), moves(1), complete(1), acts(1, 43), go(1, [1, 43, 0, 1]),
                 CONFLICTS, parse(b"a+a")]
        self.assertEqual(sorted(call[0] for call in calls), list(range(10)))
        self.assertEqual(answers(line_of(calls)), [
            2, 0, 6,
            6, 0, 2, 43, 43, 97, 97,
            2, 0, 6,
            6, 0, 2, 0, 1, 3, 1,
            5, 0, 1, 1, 0, 4,
            3, 0, 1, 3,
            4, 0, 1, 0, 4,
            2, 0, 5,
            2, 0, 0,
            6, 0, 4, 2, 1, 2, 0])

    def test_all_ten_calls_in_whatever_order_with_loads_between(self):
        sum_calls = {CLASSES[0]: (CLASSES, [0, 2, 43, 43, 97, 97]), 2: (STATES, [0, 6]),
                     3: (items(3), [0, 1, 2, 1]), 4: (moves(3), [0, 0]), 5: (complete(3), [0, 1, 2]),
                     6: (acts(3, END), [0, 1, 1, 2]), 7: (go(3, [0, 1]), [1, 0]), 8: (CONFLICTS, [0, 0]),
                     9: (parse(b"aa"), [1, 1])}
        twice_calls = {1: (CLASSES, [0, 1, 97, 97]), 2: (STATES, [0, 4]),
                       3: (items(3), [0, 4, 0, 0, 0, 1, 0, 2, 1, 0]), 4: (moves(3), [0, 2, 0, 0, 3, 1, 0, 2]),
                       5: (complete(3), [0, 1, 0]), 6: (acts(3, 97), [0, 2, 0, 2, 1, 0]), 7: (go(3, [0, 0]), [0, 3]),
                       8: (CONFLICTS, [0, 1, 3, 0, 2]), 9: (parse(b"aa"), [-7])}
        calls = []
        expected = []
        for turn in range(5):
            order = [1 + (turn * 2 + step) % 9 for step in range(9)]
            for row, told, states in ((SUM_ROW, sum_calls, 6), (TWICE_ROW, twice_calls, 4)):
                calls += [load(row)] + [told[number][0] for number in order]
                expected += [[0, states]] + [told[number][1] for number in order]
        self.assertEqual(len(calls), 100)
        self.assertEqual(ask(*calls), expected)

    def test_what_is_given_back_is_a_new_list_of_whole_numbers(self):
        calls = line_of([load(SUM_ROW), STATES, CLASSES, items(0), moves(0), complete(1), parse(b"a+a"), items(-1),
                         acts(1, END), acts(0, -1), go(0, [0, 0]), go(0, [2]), CONFLICTS, load(TWICE_ROW), CONFLICTS])
        given = answers(calls)
        self.assertIs(type(given), list)
        self.assertIsNot(given, calls)
        self.assertEqual({type(number) for number in given}, {int})

    def test_a_later_load_takes_the_place_of_the_one_before(self):
        found = ask(load(SUM_ROW), items(1), load(TWICE_ROW), CLASSES, items(1), load(SUM_ROW), items(1))
        self.assertEqual(found, [[0, 6], [0, 2, 0, 1, 3, 1], [0, 4], [0, 1, 97, 97],
                                 [0, 4, 0, 0, 0, 1, 1, 0, 2, 1], [0, 6], [0, 2, 0, 1, 3, 1]])

    def test_calls_that_ask_change_nothing(self):
        asking = [STATES, CLASSES, items(0), moves(0), complete(2), parse(b"a"), items(6), moves(-1), parse([256]),
                  acts(1, END), acts(0, 257), go(0, [0, 0]), go(0, [1, 256]), CONFLICTS]
        found = ask(load(SUM_ROW), *(asking * 5))
        for times in range(5):
            self.assertEqual(found[1 + times * len(asking):][:len(asking)], found[1:][:len(asking)])

    def test_a_hundred_calls(self):
        self.assertEqual(ask(*([STATES] * 100)), [[0, 2]] * 100)
        self.assertEqual(ask(*([load(SUM_ROW), load([1, 0])] * 50)), [[0, 6], [0, 2]] * 50)
        longest = [1, 60] + ([0, 8] + [1, 97, 97] * 8) * 60
        calls = [load(longest)] * 10 + [items(0)] * 90
        self.assertLessEqual(len(line_of(calls)), 17000)
        one = [0, 61] + [number for rule in range(61) for number in (rule, 0)]
        self.assertEqual(ask(*calls), [[0, 10]] * 10 + [one] * 90)

    def test_a_hundred_calls_of_each_kind(self):
        asking = [(acts(3, 97), [0, 2, 0, 2, 1, 0]), (go(0, [0, 0]), [0, 1]), (CONFLICTS, [0, 1, 3, 0, 2]),
                  (parse(b"a"), [-7]), (complete(1), [0, 1, 2]), (CLASSES, [0, 1, 97, 97])]
        for call, answer in asking:
            self.assertEqual(ask(load(TWICE_ROW), *[call] * 99), [[0, 4]] + [answer] * 99)

    def test_a_list_of_nearly_17000_numbers(self):
        list_row = row_of(1, [(0, [byte("a"), non(0)]), (0, [byte("a")])])
        calls = [load(list_row)] + [go(0, [1, 97] * 100), parse(b"a" * 100), go(0, [2] * 30)] * 33
        calls[-1] = go(0, [2] * 2000)
        calls[-4] = parse([256] * 2000)
        expected = [[0, 4]] + [[0, 2], [0, 100, 1] + [0] * 99, [-5]] * 33
        expected[-1] = [-3]
        expected[-4] = [-1]
        self.assertGreater(len(line_of(calls)), 14500)
        self.assertEqual(ask(*calls), expected)

    def test_a_row_may_hold_what_looks_like_calls(self):
        self.assertEqual(ask(load([2, 2, 2]), load([]), load([0, 0]), STATES), [[-2], [-2], [-2], [0, 2]])
        self.assertEqual(ask(go(0, [8, 8]), parse([8, 8]), go(9, []), parse([]), STATES),
                         [[-5], [1, 0], [-4], [1, 0], [0, 2]])


class AsItWasBehindEachRefusal(unittest.TestCase):
    REFUSED = [
        (load([-1]), -1), (load([1]), -2), (load(TOO_MANY_STATES), -6),
        (items(-1), -4), (moves(128), -4), (complete(HUGE), -4), (acts(-HUGE, 0), -4), (acts(0, 257), -5),
        (go(0, [-1]), -1), (go(0, [0, 0] * 101), -3), (go(-1, []), -4), (go(0, [2, 0]), -5),
        (parse([-1]), -1), (parse([0] * 201), -3)]

    def all_calls(self, states):
        calls = [CLASSES, STATES, CONFLICTS, parse(b"a"), parse(b"")]
        for i in range(states + 1):
            calls += [items(i), moves(i), complete(i), acts(i, 97), acts(i, END), go(i, [0, 0])]
        return calls

    def compare(self, row, states, refused):
        calls = self.all_calls(states)
        before = ask_of(row, *calls)
        for call, number in refused:
            # Asked ahead of the refusal and behind it, or behind it alone.
            self.assertEqual(ask_of(row, CONFLICTS, call, *calls)[1:], [[number]] + before)
            self.assertEqual(ask_of(row, call, *calls), [[number]] + before)

    def test_a_grammar_without_conflicts(self):
        self.compare(SUM_ROW, 6, self.REFUSED)

    def test_a_grammar_with_conflicts(self):
        self.compare(TWICE_ROW, 4, self.REFUSED + [(parse(b"a"), -7)])

    def test_too_many_steps(self):
        found = ask_of(SLOW_ROW, STATES, parse(b"a"), STATES, CONFLICTS, parse(b""), parse(b"a"))
        self.assertEqual(found, [found[0], [-8], found[0], [0, 0], [1, 0], [-8]])

    def test_the_new_object(self):
        calls = self.all_calls(2)
        for call, number in self.REFUSED:
            self.assertEqual(ask(call, *calls), [[number]] + ask(*calls))


class NothingChangedNothingKept(unittest.TestCase):
    CALLS = line_of([STATES, load(SUM_ROW), items(0), moves(0), load([-1]), load(TWICE_ROW), moves(1), complete(1),
                     CLASSES, items(4), parse(b"a"), load([1, 0]), parse(b""), acts(1, END), load(TWICE_ROW),
                     acts(3, 97), acts(4, -1), go(0, [0, 0, 1, 97]), go(0, [0, 0, 0]), CONFLICTS, CLASSES])

    def test_the_list_handed_in_stands_unchanged(self):
        calls = list(self.CALLS)
        answers(calls)
        self.assertEqual(calls, self.CALLS)

    def test_the_list_handed_in_is_never_written_to(self):
        class Watched(list):
            def refuse(self, *args, **kwargs):
                raise AssertionError("the list was written to")
            append = extend = insert = pop = remove = clear = sort = reverse = refuse
            __setitem__ = __delitem__ = __iadd__ = __imul__ = refuse

        self.assertEqual(answers(Watched(self.CALLS)), answers(list(self.CALLS)))

    def test_the_same_list_twice_gives_the_same(self):
        self.assertEqual(answers(list(self.CALLS)), answers(list(self.CALLS)))

    def test_what_is_given_back_may_be_changed_without_harm(self):
        first = answers(list(self.CALLS))
        kept = list(first)
        first.clear()
        self.assertEqual(answers(list(self.CALLS)), kept)

    def test_each_list_begins_with_a_new_object(self):
        self.assertEqual(parted(answers(load(SUM_ROW) + STATES))[1], [0, 6])
        self.assertEqual(parted(answers(list(STATES))), [[0, 2]])


if __name__ == "__main__":
    unittest.main()
