"""states, items, moves and complete, state by state, and how states are numbered."""

import unittest

from support import (HUGE, STATES, SUM_ROW, TWICE_ROW, acts, ask, ask_of, byte, complete, items, moves, non, pairs,
                     row_of, span)


def all_items(row, states):
    return [pairs(answer, 2) for answer in ask_of(row, *[items(i) for i in range(states)])]


def all_moves(row, states):
    return [pairs(answer, 3) for answer in ask_of(row, *[moves(i) for i in range(states)])]


def all_complete(row, states):
    return [[one[0] for one in pairs(answer, 1)] for answer in ask_of(row, *[complete(i) for i in range(states)])]


class EachState(unittest.TestCase):
    def test_the_sum_grammar(self):
        self.assertEqual(all_items(SUM_ROW, 6), [
            [(0, 0), (1, 0), (2, 0), (3, 0)],
            [(0, 1), (3, 1)],
            [(1, 1)],
            [(2, 1)],
            [(0, 2), (2, 0)],
            [(0, 3)]])
        self.assertEqual(all_moves(SUM_ROW, 6), [
            [(0, 0, 1), (0, 1, 2), (1, 1, 3)],
            [(1, 0, 4)],
            [],
            [],
            [(0, 1, 5), (1, 1, 3)],
            []])
        self.assertEqual(all_complete(SUM_ROW, 6), [[], [3], [1], [2], [], [0]])

    def test_the_grammar_of_twice_itself(self):
        self.assertEqual(all_items(TWICE_ROW, 4), [
            [(0, 0), (1, 0), (2, 0)],
            [(0, 0), (0, 1), (1, 0), (2, 1)],
            [(1, 1)],
            [(0, 0), (0, 1), (0, 2), (1, 0)]])
        self.assertEqual(all_moves(TWICE_ROW, 4), [
            [(0, 0, 1), (1, 0, 2)],
            [(0, 0, 3), (1, 0, 2)],
            [],
            [(0, 0, 3), (1, 0, 2)]])
        self.assertEqual(all_complete(TWICE_ROW, 4), [[], [2], [1], [0]])

    def test_rule_number_r_is_whole_behind_the_start(self):
        for row, rules in ((SUM_ROW, 3), (TWICE_ROW, 2), ([1, 0], 0), (row_of(1, [(0, [byte("a")])] * 60), 60)):
            self.assertEqual(ask_of(row, complete(1)), [[0, 1, rules]])
        self.assertEqual(ask_of(row_of(1, [(0, [non(0)]), (0, [])]), complete(1)), [[0, 2, 0, 2]])

    def test_a_state_in_which_no_rule_is_whole(self):
        self.assertEqual(ask_of(SUM_ROW, complete(0), complete(4)), [[0, 0], [0, 0]])
        self.assertEqual(ask(complete(0)), [[0, 0]])

    def test_whole_whether_anything_follows_or_not(self):
        row = row_of(2, [(0, [non(1), non(0)]), (1, [byte("a")]), (1, [byte("a")])])
        self.assertEqual(ask_of(row, complete(3)), [[0, 2, 1, 2]])

    def test_rules_without_symbols_are_whole_where_they_come_in(self):
        row = row_of(2, [(0, [non(1), byte("x")]), (1, []), (1, [])])
        self.assertEqual(all_complete(row, 4), [[1, 2], [3], [], [0]])

    def test_a_nonterminal_without_rules_is_moved_over_all_the_same(self):
        row = row_of(2, [(0, [non(1)])])
        self.assertEqual(all_items(row, 3), [[(0, 0), (1, 0)], [(1, 1)], [(0, 1)]])
        self.assertEqual(all_moves(row, 3), [[(0, 0, 1), (0, 1, 2)], [], []])

    def test_the_start_is_moved_over_although_it_has_no_rules(self):
        row = row_of(2, [(1, [byte("a")])])
        self.assertEqual(all_items(row, 2), [[(1, 0)], [(1, 1)]])
        self.assertEqual(all_moves(row, 2), [[(0, 0, 1)], []])

    def test_closing_goes_on_through_several_nonterminals(self):
        row = row_of(4, [(0, [byte("a"), non(2)]), (2, [non(3)]), (3, [non(1)]), (1, [non(2), byte("b")]), (1, [])])
        self.assertEqual(all_items(row, 3)[2], [(0, 1), (1, 0), (2, 0), (3, 0), (4, 0)])


class Numbering(unittest.TestCase):
    def test_nonterminals_ascending_ahead_of_classes_ascending(self):
        row = row_of(3, [(0, [span(90, 99)]), (0, [span(10, 19)]), (0, [non(2)]), (0, [non(1)])])
        self.assertEqual(all_moves(row, 6)[0], [(0, 0, 1), (0, 1, 2), (0, 2, 3), (1, 0, 4), (1, 1, 5)])
        self.assertEqual(all_items(row, 6)[1:], [[(4, 1)], [(3, 1)], [(2, 1)], [(1, 1)], [(0, 1)]])

    def test_more_than_ten_nonterminals_ascend_by_number(self):
        row = row_of(20, [(0, [non(number)]) for number in range(19, 0, -1)])
        self.assertEqual(all_moves(row, 21)[0], [(0, number, number + 1) for number in range(20)])

    def test_states_are_gone_through_by_their_numbers(self):
        # a b and c d: the states behind the first bytes come ahead of those behind both.
        row = row_of(1, [(0, [byte("a"), byte("b")]), (0, [byte("c"), byte("d")])])
        self.assertEqual(all_items(row, 6)[2:], [[(0, 1)], [(1, 1)], [(0, 2)], [(1, 2)]])

    def test_classes_of_one_range_lead_to_one_state(self):
        row = row_of(1, [(0, [span(10, 29)]), (0, [span(20, 39), byte("x")])])
        self.assertEqual(all_moves(row, 6)[0], [(0, 0, 1), (1, 0, 2), (1, 1, 3), (1, 2, 4)])
        self.assertEqual(all_items(row, 6)[2:], [[(0, 1)], [(0, 1), (1, 1)], [(1, 1)], [(1, 2)]])
        row = row_of(1, [(0, [span(10, 29), span(20, 39)])])
        self.assertEqual(all_moves(row, 4), [[(0, 0, 1), (1, 0, 2), (1, 1, 2)], [], [(1, 1, 3), (1, 2, 3)], []])

    def test_a_state_that_is_there_gets_no_second_number(self):
        row = row_of(1, [(0, [byte("a"), non(0)]), (0, [byte("b")])])
        self.assertEqual(all_moves(row, 5), [
            [(0, 0, 1), (1, 0, 2), (1, 1, 3)], [], [(0, 0, 4), (1, 0, 2), (1, 1, 3)], [], []])

    def test_rules_that_are_the_same_stay_two_rules(self):
        row = row_of(1, [(0, [byte("a"), byte("b")]), (0, [byte("a"), byte("b")])])
        self.assertEqual(all_items(row, 4)[2:], [[(0, 1), (1, 1)], [(0, 2), (1, 2)]])


class NoSuchState(unittest.TestCase):
    def refused(self, states):
        return (-1, -2, -HUGE, states, states + 1, 127, 128, HUGE)

    def test_below_0_the_number_of_states_and_far_off(self):
        for call in (items, moves, complete):
            for i in self.refused(6):
                self.assertEqual(ask_of(SUM_ROW, call(i), STATES), [[-4], [0, 6]])
            for i in self.refused(2):
                self.assertEqual(ask(call(i), STATES), [[-4], [0, 2]])

    def test_acts_refuses_them_whatever_the_byte(self):
        for i in self.refused(6):
            for b in (-HUGE, -1, 0, 256, 257, HUGE):
                self.assertEqual(ask_of(SUM_ROW, acts(i, b), STATES), [[-4], [0, 6]])

    def test_the_last_state_is_one(self):
        for call in (items, moves, complete):
            self.assertEqual(ask_of(SUM_ROW, call(5))[0][0], 0)

    def test_the_number_of_states_is_that_of_the_grammar_held(self):
        found = ask_of(SUM_ROW, items(5), [0, 2, 1, 0], items(5), items(1))
        self.assertEqual(found, [[0, 1, 0, 3], [0, 2], [-4], [0, 1, 0, 1]])


if __name__ == "__main__":
    unittest.main()
