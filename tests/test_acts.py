"""acts: what may be done in each state at bytes of each class, of no class, and at the end."""

import unittest

from support import (END, HUGE, STATES, SUM_ROW, TWICE_ROW, acts, ask, ask_of, byte, go, load, non, over, pairs, row_of,
                     span)


def things(row, i, b):
    return pairs(ask_of(row, acts(i, b))[0], 2)


def all_things(row, states, signs):
    """For each state a dict: what may be done at each of these, where something may be done."""
    found = []
    for i in range(states):
        answered = [(sign, things(row, i, sign if sign == END else ord(sign))) for sign in signs]
        found.append({sign: done for sign, done in answered if done})
    return found


class EachState(unittest.TestCase):
    def test_the_sum_grammar(self):
        self.assertEqual(all_things(SUM_ROW, 6, ["+", "a", "b", "\0", "\xff", END]), [
            {"a": [(0, 3)]},
            {"+": [(0, 4)], END: [(2, 0)]},
            {"+": [(1, 1)], END: [(1, 1)]},
            {"+": [(1, 2)], END: [(1, 2)]},
            {"a": [(0, 3)]},
            {"+": [(1, 0)], END: [(1, 0)]}])

    def test_the_grammar_of_twice_itself(self):
        self.assertEqual(all_things(TWICE_ROW, 4, ["a", "b", END]), [
            {"a": [(0, 2)]},
            {"a": [(0, 2)], END: [(2, 0)]},
            {"a": [(1, 1)], END: [(1, 1)]},
            {"a": [(0, 2), (1, 0)], END: [(1, 0)]}])

    def test_brackets_with_a_rule_without_symbols(self):
        row = row_of(1, [(0, [byte("("), non(0), byte(")"), non(0)]), (0, [])])
        self.assertEqual(all_things(row, 6, ["(", ")", "*", END]), [
            {"(": [(0, 2)], ")": [(1, 1)], END: [(1, 1)]},
            {END: [(2, 0)]},
            {"(": [(0, 2)], ")": [(1, 1)], END: [(1, 1)]},
            {")": [(0, 4)]},
            {"(": [(0, 2)], ")": [(1, 1)], END: [(1, 1)]},
            {")": [(1, 0)], END: [(1, 0)]}])

    def test_every_byte_of_a_class_and_none_beside_it(self):
        row = row_of(1, [(0, [span(10, 12), span(20, 29)]), (0, [span(12, 14)])])
        self.assertEqual([b for b in range(257) if things(row, 0, b)], [10, 11, 12, 13, 14])
        self.assertEqual([things(row, 0, b) for b in (10, 11, 12, 13, 14)],
                         [[(0, 2)], [(0, 2)], [(0, 3)], [(0, 4)], [(0, 4)]])
        self.assertEqual([b for b in range(257) if things(row, 3, b)], list(range(20, 30)) + [END])

    def test_the_first_and_the_last_byte(self):
        row = row_of(1, [(0, [span(0, 0), non(0)]), (0, [span(255, 255)])])
        self.assertEqual([things(row, 0, b) for b in (0, 1, 254, 255, 256)], [[(0, 2)], [], [], [(0, 3)], []])
        self.assertEqual([things(row, 3, b) for b in (0, 255, 256)], [[], [], [(1, 1)]])

    def test_bytes_of_no_class_where_there_are_no_classes(self):
        row = row_of(1, [(0, [])])
        self.assertEqual([b for b in range(257) if things(row, 0, b)], [END])
        self.assertEqual([b for b in range(257) if things(row, 1, b)], [END])


class Order(unittest.TestCase):
    def test_moving_on_ahead_of_rules_ascending(self):
        row = row_of(2, [(0, [non(1), byte("a")]), (1, [byte("b")]), (1, [byte("b")]), (1, [byte("b"), byte("a")])])
        self.assertEqual(ask_of(row, acts(3, 97)), [[0, 3, 0, 5, 1, 1, 1, 2]])

    def test_rules_ascending_whatever_their_nonterminals(self):
        rules = [(2, [byte("b")]), (1, [byte("b")]), (2, [byte("b")]), (1, [byte("b")]), (0, [non(1)]), (0, [non(2)])]
        behind = ask_of(row_of(3, rules), go(0, over("b")))[0][1]
        self.assertEqual(things(row_of(3, rules), behind, END), [(1, 0), (1, 1), (1, 2), (1, 3)])

    def test_accepting_behind_putting_together(self):
        row = row_of(1, [(0, [non(0)]), (0, [byte("a")]), (0, [non(0)])])
        self.assertEqual(ask_of(row, acts(1, END)), [[0, 3, 1, 0, 1, 2, 2, 0]])

    def test_moving_on_at_a_byte_and_accepting_at_the_end(self):
        row = row_of(1, [(0, [non(0), byte("a")]), (0, [])])
        self.assertEqual(ask_of(row, acts(1, 97), acts(1, END), acts(0, 97), acts(0, END)),
                         [[0, 1, 0, 2], [0, 1, 2, 0], [0, 1, 1, 1], [0, 1, 1, 1]])

    def test_60_rules_and_one_move(self):
        rules = [(0, [non(0), byte("a")])] + [(0, [])] * 59
        expected = [(1, rule) for rule in range(1, 60)]
        self.assertEqual(things(row_of(1, rules), 0, 97), expected)
        self.assertEqual(things(row_of(1, rules), 0, END), expected)


class WhatFollows(unittest.TestCase):
    """Where the rule 1 -> b may be put together; the state is the one behind b."""

    def where(self, nonterminals, rules, prefix=""):
        row = row_of(nonterminals, [(1, [byte("b")])] + rules)
        behind = ask_of(row, go(0, over(prefix + "b")))[0]
        self.assertEqual(behind[0], 0)
        return [b for b in range(257) if (1, 0) in things(row, behind[1], b)]

    def test_the_end_where_it_is_last(self):
        self.assertEqual(self.where(2, [(0, [non(1)])]), [END])

    def test_the_range_behind_it(self):
        self.assertEqual(self.where(2, [(0, [non(1), span(10, 12)]), (0, [non(1), span(20, 21)])]), [10, 11, 12, 20, 21])

    def test_the_first_bytes_of_the_nonterminal_behind_it(self):
        rules = [(0, [non(1), non(2)]), (2, [span(10, 11), span(90, 99)]), (2, [non(3)]), (3, [span(14, 15)])]
        self.assertEqual(self.where(4, rules), [10, 11, 14, 15])

    def test_through_hollow_nonterminals(self):
        rules = [(0, [non(1), non(2), non(3), span(50, 50)]), (2, [span(10, 10)]), (2, []), (3, [span(20, 20)])]
        self.assertEqual(self.where(4, rules), [10, 20])
        self.assertEqual(self.where(4, rules + [(3, [])]), [10, 20, 50])
        self.assertEqual(self.where(4, rules + [(3, [non(2)])]), [10, 20, 50])

    def test_the_end_through_hollow_nonterminals(self):
        rules = [(0, [non(1), non(2), non(2)]), (2, [span(10, 10)])]
        self.assertEqual(self.where(3, rules), [10])
        self.assertEqual(self.where(3, rules + [(2, [])]), [10, END])

    def test_a_nonterminal_that_is_hollow_only_without_end_is_not(self):
        # 2 -> 2 follows in no finite number of steps.
        rules = [(0, [non(1), non(2), span(50, 50)]), (0, [non(1)]), (2, [non(2)]), (2, [span(10, 10)])]
        self.assertEqual(self.where(3, rules), [10, END])

    def test_what_follows_the_rule_that_it_ends(self):
        rules = [(0, [span(40, 40), non(2), span(60, 60)]), (2, [non(1)])]
        self.assertEqual(self.where(3, rules, "("), [60])
        rules = [(0, [span(40, 40), non(2), span(60, 60)]), (2, [non(1), non(3)]), (3, [])]
        self.assertEqual(self.where(4, rules, "("), [60])

    def test_what_follows_later_occurrences_in_one_rule(self):
        rules = [(0, [non(1), span(10, 10), non(1), span(20, 20), non(1)])]
        self.assertEqual(self.where(2, rules), [10, 20, END])
        self.assertEqual(self.where(2, [(0, [non(1), non(1)])]), [98, END])

    def test_nothing_by_a_rule_that_is_not_productive(self):
        rules = [(0, [non(1)]), (0, [non(1), span(10, 10), non(2)])]
        self.assertEqual(self.where(3, rules), [END])
        self.assertEqual(self.where(3, rules + [(2, [non(2)])]), [END])
        self.assertEqual(self.where(3, rules + [(2, [])]), [10, END])

    def test_nothing_by_first_bytes_that_lead_nowhere(self):
        rules = [(0, [non(1), non(2)]), (2, [span(10, 10), non(3)]), (2, [span(20, 20)])]
        self.assertEqual(self.where(4, rules), [20])

    def test_nothing_by_a_rule_of_a_nonterminal_that_is_not_reachable(self):
        rules = [(0, [non(1)]), (2, [non(1), span(10, 10)])]
        self.assertEqual(self.where(3, rules), [END])
        self.assertEqual(self.where(3, rules + [(0, [span(20, 20), non(2)])]), [10, END])

    def test_nothing_by_a_nonterminal_reached_only_through_a_rule_that_is_not_productive(self):
        rules = [(0, [non(1)]), (2, [non(1), span(10, 10)]), (0, [non(2), non(3)])]
        self.assertEqual(self.where(4, rules), [END])
        self.assertEqual(self.where(4, rules + [(3, [])]), [10, END])

    def test_nothing_follows_a_nonterminal_that_is_not_reachable(self):
        self.assertEqual(self.where(3, [(0, [non(1), non(2)]), (0, [])]), [])

    def test_nothing_follows_where_the_start_is_not_productive(self):
        row = row_of(2, [(1, [byte("b")]), (0, [non(1), non(0)])])
        self.assertEqual(self.where(2, [(0, [non(1), non(0)])]), [])
        # Rule number R is accepted all the same, where it is whole.
        self.assertEqual(ask_of(row, acts(1, END), acts(1, 98)), [[0, 1, 2, 0], [0, 0]])

    def test_moving_on_asks_for_nothing_useful(self):
        row = row_of(1, [(0, [byte("a"), non(0)])])
        self.assertEqual(ask_of(row, acts(0, 97), acts(2, 97), acts(2, END)), [[0, 1, 0, 2], [0, 1, 0, 2], [0, 0]])


class Refusals(unittest.TestCase):
    def test_no_byte_and_not_the_end(self):
        for b in (-1, 257, 258, HUGE, -HUGE):
            for i in range(6):
                self.assertEqual(ask_of(SUM_ROW, acts(i, b), STATES), [[-5], [0, 6]])
            self.assertEqual(ask(acts(0, b), acts(1, b)), [[-5], [-5]])

    def test_0_and_256_are_taken(self):
        self.assertEqual(ask_of(SUM_ROW, acts(0, 0), acts(0, 256), acts(5, 256)), [[0, 0], [0, 0], [0, 1, 1, 0]])

    def test_no_such_state_is_told_ahead_of_no_byte(self):
        for i in (-1, -HUGE, 6, 127, 128, HUGE):
            for b in (-HUGE, -1, 0, 97, 256, 257, HUGE):
                self.assertEqual(ask_of(SUM_ROW, acts(i, b), STATES), [[-4], [0, 6]])

    def test_the_grammar_is_the_one_that_is_held(self):
        found = ask(acts(1, END), load(SUM_ROW), acts(3, 97), acts(5, END), load(TWICE_ROW), acts(3, 97), acts(5, END),
                    load([1]), acts(3, 97), load([1, 0]), acts(0, END), acts(1, END), acts(3, 97))
        self.assertEqual(found, [[0, 1, 2, 0], [0, 6], [0, 0], [0, 1, 1, 0], [0, 4], [0, 2, 0, 2, 1, 0], [-4],
                                 [-2], [0, 2, 0, 2, 1, 0], [0, 2], [0, 0], [0, 1, 2, 0], [-4]])


if __name__ == "__main__":
    unittest.main()
