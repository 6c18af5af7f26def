"""conflicts: where there are any, how many things each has, and the order in which they stand."""

import unittest

from support import (CONFLICTS, END, SUM_ROW, TWICE_ROW, acts, ask, ask_of, byte, complete, go, load, non, over, pairs,
                     parse, row_of, span)


def conflicts(nonterminals, rules):
    return pairs(ask_of(row_of(nonterminals, rules), CONFLICTS)[0], 3)


class Kinds(unittest.TestCase):
    def test_none(self):
        self.assertEqual(ask_of(SUM_ROW, CONFLICTS), [[0, 0]])
        self.assertEqual(conflicts(1, []), [])
        self.assertEqual(conflicts(1, [(0, [])]), [])
        self.assertEqual(conflicts(1, [(0, [byte("("), non(0), byte(")"), non(0)]), (0, [])]), [])

    def test_moving_on_and_putting_together_at_a_class(self):
        self.assertEqual(ask_of(TWICE_ROW, CONFLICTS), [[0, 1, 3, 0, 2]])

    def test_two_rules_at_a_class(self):
        rules = [(0, [non(1), byte("x")]), (0, [non(2), byte("x")]), (1, [byte("a")]), (2, [byte("a")])]
        self.assertEqual(conflicts(3, rules), [(4, 1, 2)])

    def test_no_conflict_where_the_two_rules_are_followed_by_other_bytes(self):
        rules = [(0, [non(1), byte("x")]), (0, [non(2), byte("y")]), (1, [byte("a")]), (2, [byte("a")])]
        self.assertEqual(conflicts(3, rules), [])

    def test_two_rules_at_the_end(self):
        rules = [(0, [non(1)]), (0, [non(2)]), (1, [byte("a")]), (2, [byte("a")])]
        self.assertEqual(conflicts(3, rules), [(4, 1, 2)])
        self.assertEqual(ask_of(row_of(3, rules), acts(4, END)), [[0, 2, 1, 2, 1, 3]])

    def test_putting_together_and_accepting(self):
        self.assertEqual(conflicts(1, [(0, [non(0)]), (0, [byte("a")])]), [(1, 1, 2)])

    def test_a_start_that_leads_to_itself_through_another(self):
        self.assertEqual(conflicts(2, [(0, [non(1)]), (1, [non(0)]), (0, [byte("a")])]), [(1, 1, 2)])

    def test_three_things_at_once(self):
        rules = [(0, [non(1), byte("a")]), (1, [byte("b")]), (1, [byte("b")]), (1, [byte("b"), byte("a")])]
        self.assertEqual(conflicts(2, rules), [(3, 0, 3)])
        self.assertEqual(conflicts(1, [(0, [non(0)]), (0, [non(0)]), (0, [byte("a")])]), [(1, 1, 3)])

    def test_a_rule_without_symbols_and_moving_on(self):
        self.assertEqual(conflicts(2, [(0, [non(1), byte("a")]), (1, [byte("a")]), (1, [])]), [(0, 0, 2)])

    def test_the_end_is_the_number_of_classes(self):
        # 3 classes, of which two lie in one range.
        rules = [(0, [span(10, 20)]), (0, [span(10, 20)]), (0, [span(15, 30), byte("a")])]
        self.assertEqual(conflicts(1, rules), [(2, 4, 2), (3, 4, 2)])
        self.assertEqual(ask_of(row_of(1, rules), [1]), [[0, 4, 10, 14, 15, 20, 21, 30, 97, 97]])

    def test_no_classes_at_all(self):
        self.assertEqual(conflicts(1, [(0, []), (0, [])]), [(0, 0, 2)])
        self.assertEqual(conflicts(1, [(0, []), (0, [non(0)])]), [(1, 0, 2)])

    def test_one_conflict_for_a_class_of_many_bytes(self):
        self.assertEqual(conflicts(1, [(0, [non(0), non(0)]), (0, [span(0, 255)])]), [(3, 0, 2)])


class SameRules(unittest.TestCase):
    def test_each_time_they_are_whole(self):
        self.assertEqual(conflicts(1, [(0, [byte("a")]), (0, [byte("a")])]), [(2, 1, 2)])
        self.assertEqual(conflicts(1, [(0, [byte("a")])] * 60), [(2, 1, 60)])
        self.assertEqual(conflicts(1, [(0, [])] * 60), [(0, 0, 60)])

    def test_at_classes_and_at_the_end(self):
        rules = [(0, [non(0), byte("x")]), (0, [byte("a")]), (0, [byte("a")])]
        self.assertEqual(conflicts(1, rules), [(2, 1, 2), (2, 2, 2)])


class Order(unittest.TestCase):
    def test_by_state_then_by_class(self):
        rules = [(0, [non(0), byte("+"), non(0)]), (0, [non(0), byte("*"), non(0)]), (0, [byte("a")])]
        self.assertEqual(ask_of(row_of(1, rules), CONFLICTS), [[0, 4, 5, 0, 2, 5, 1, 2, 6, 0, 2, 6, 1, 2]])

    def test_classes_ascend_whatever_is_done_there(self):
        # Behind b: two rules at a, the same two and moving on at c.
        rules = [(0, [non(1), byte("a")]), (0, [non(1), byte("c")]), (1, [byte("b")]), (1, [byte("b")]),
                 (1, [byte("b"), byte("c")])]
        self.assertEqual(conflicts(2, rules), [(3, 0, 2), (3, 2, 3)])

    def test_the_end_last_in_each_state(self):
        rules = [(0, [non(0), non(0)]), (0, [byte("a")]), (0, [byte("a")])]
        self.assertEqual(conflicts(1, rules), [(2, 0, 2), (2, 1, 2), (3, 0, 2)])
        rules = [(0, [non(0), non(0)]), (0, [byte("a")]), (0, [])]
        # State 0: moving on and rule 2 at a. State 1: at a the same; at the end rule 2 and accepting.
        # State 3: rules 0 and 2, and moving on, at a; rules 0 and 2 at the end.
        self.assertEqual(conflicts(1, rules), [(0, 0, 2), (1, 0, 2), (1, 1, 2), (3, 0, 3), (3, 1, 2)])

    def test_more_than_ten_states_and_classes(self):
        # Each of 12 bytes, twice: behind each lies a state with a conflict at the end and at each byte.
        rules = [(0, [span(2 * k, 2 * k)]) for k in range(12)] * 2 + [(0, [non(0), non(0)])]
        found = conflicts(1, rules)
        self.assertEqual(found, sorted(found))
        self.assertEqual(found[:13], [(2, c, 2) for c in range(13)])
        self.assertEqual(found[-12:], [(14, c, 2) for c in range(12)])
        self.assertEqual(len(found), 12 * 13 + 12)


class SetsOfNonterminals(unittest.TestCase):
    """Behind b one may move on over a, and put 1 -> b together wherever 1 is followed."""

    BASE = [(1, [byte("b")]), (1, [byte("b"), byte("a")]), (0, [byte("("), non(1)])]

    def conflict(self, nonterminals, rules):
        """Whether there is the conflict behind b; there may be no other."""
        row = row_of(nonterminals, self.BASE + rules)
        behind = ask_of(row, go(0, over("(b")))[0][1]
        letter_a = ask_of(row, [1])[0][2::2].index(97)
        found = pairs(ask_of(row, CONFLICTS)[0], 3)
        self.assertIn(found, [[], [(behind, letter_a, 2)]])
        return bool(found)

    def test_a_follows_or_does_not(self):
        self.assertFalse(self.conflict(2, []))
        self.assertTrue(self.conflict(2, [(0, [non(1), byte("a")])]))
        self.assertFalse(self.conflict(2, [(0, [non(1), byte("c"), byte("a")])]))

    def test_not_productive(self):
        rules = [(0, [non(1), byte("a"), non(2)])]
        self.assertFalse(self.conflict(3, rules))
        self.assertFalse(self.conflict(3, rules + [(2, [byte("x"), non(2)])]))
        self.assertTrue(self.conflict(3, rules + [(2, [byte("x"), non(2)]), (2, [byte("y")])]))

    def test_not_productive_behind_it(self):
        rules = [(0, [non(1), non(2)]), (2, [byte("a"), non(3)]), (2, [byte("c")])]
        self.assertFalse(self.conflict(4, rules))
        self.assertTrue(self.conflict(4, rules + [(3, [byte("d")])]))

    def test_not_reachable(self):
        rules = [(2, [non(1), byte("a")])]
        self.assertFalse(self.conflict(3, rules))
        self.assertTrue(self.conflict(3, rules + [(0, [byte("x"), non(2)])]))

    def test_not_reachable_by_productive_rules(self):
        rules = [(2, [non(1), byte("a")]), (0, [byte("x"), non(2), non(3)])]
        self.assertFalse(self.conflict(4, rules))
        self.assertTrue(self.conflict(4, rules + [(3, [byte("y")])]))

    def test_hollow(self):
        rules = [(0, [non(1), non(2), byte("a")]), (2, [byte("c")])]
        self.assertFalse(self.conflict(3, rules))
        self.assertTrue(self.conflict(3, rules + [(2, [])]))
        self.assertTrue(self.conflict(4, rules + [(2, [non(3), non(3)]), (3, [])]))
        self.assertFalse(self.conflict(4, rules + [(2, [non(3), non(3)])]))

    def test_what_follows_a_nonterminal_whose_rule_it_ends(self):
        rules = [(0, [byte("x"), non(2), byte("a")]), (2, [byte("y"), non(1)])]
        self.assertTrue(self.conflict(3, rules))
        self.assertFalse(self.conflict(3, rules[1:]))

    def test_rules_of_a_nonterminal_that_nothing_follows(self):
        # 1 stands beside 2, which covers nothing: both its rules are whole, and never put together.
        rules = [(0, [byte("x")]), (0, [non(1), non(2)]), (1, [byte("b")]), (1, [byte("b")])]
        row = row_of(3, rules)
        behind = ask_of(row, go(0, over("b")))[0][1]
        self.assertEqual(ask_of(row, CONFLICTS, complete(behind), parse(b"x")), [[0, 0], [0, 2, 2, 3], [0, 1, 0]])

    def test_a_start_that_is_not_productive(self):
        rules = [(0, [non(1), non(0)]), (1, [byte("a")]), (1, [byte("a")])]
        self.assertEqual(conflicts(2, rules), [])
        self.assertEqual(conflicts(1, [(0, [non(0)]), (0, [non(0)])]), [])


class WithOtherCalls(unittest.TestCase):
    def test_a_table_with_conflicts_is_one_that_parse_refuses(self):
        self.assertEqual(ask(CONFLICTS, parse(b""), load(TWICE_ROW), CONFLICTS, parse(b""), load(SUM_ROW), CONFLICTS,
                             parse(b"a"), load([-1]), CONFLICTS, load(TWICE_ROW), load([1, 1]), CONFLICTS),
                         [[0, 0], [1, 0], [0, 4], [0, 1, 3, 0, 2], [-7], [0, 6], [0, 0], [0, 2, 2, 1], [-1], [0, 0],
                          [0, 4], [-2], [0, 1, 3, 0, 2]])

    def test_a_hundred_times(self):
        rules = [(0, [span(2 * k, 2 * k + 119)]) for k in range(30)] + [(0, [non(0), non(0)])] + [(0, [])] * 29
        found = ask_of(row_of(1, rules), *[CONFLICTS] * 99)
        self.assertGreater(found[0][1], 1000)
        self.assertEqual(found, [found[0]] * 99)


if __name__ == "__main__":
    unittest.main()
