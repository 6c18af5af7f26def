"""parse: its refusals and their order, texts that are read, and where reading stops."""

import unittest

from support import HUGE, STATES, SUM_ROW, TWICE_ROW, ask, ask_of, byte, load, non, parse, row_of, span

LIST_ROW = row_of(1, [(0, [non(0), byte("a")]), (0, [byte("a")])])


def parsed(row, text):
    return ask_of(row, parse(text))[0]


class Refusals(unittest.TestCase):
    def test_a_number_that_is_no_byte(self):
        for number in (-1, 256, HUGE, -HUGE):
            self.assertEqual(parsed(SUM_ROW, [97, number]), [-1])
            self.assertEqual(parsed(SUM_ROW, [number] * 300), [-1])
            self.assertEqual(parsed(TWICE_ROW, [number]), [-1])

    def test_the_first_and_the_last_byte_are_bytes(self):
        self.assertEqual(parsed(row_of(1, [(0, [span(0, 0), span(255, 255)])]), [0, 255]), [0, 1, 0])
        self.assertEqual(parsed(SUM_ROW, [0]), [1, 0])
        self.assertEqual(parsed(SUM_ROW, [255]), [1, 0])

    def test_more_than_200_bytes(self):
        self.assertEqual(parsed(LIST_ROW, b"a" * 200), [0, 200, 1] + [0] * 199)
        self.assertEqual(parsed(LIST_ROW, b"a" * 201), [-3])
        self.assertEqual(parsed(LIST_ROW, b"a" * 2000), [-3])
        self.assertEqual(parsed(TWICE_ROW, b"a" * 201), [-3])

    def test_conflicts_whatever_the_text(self):
        for text in (b"", b"a", b"b", b"a" * 200):
            self.assertEqual(parsed(TWICE_ROW, text), [-7])

    def test_the_first_that_is_told_is_answered(self):
        # The steps of 200 a would be too many; a rule that is there twice makes a conflict.
        slow = Steps.ROW
        slow_with_conflict = row_of(20, Steps.RULES + [Steps.RULES[-1]])
        self.assertEqual(parsed(slow, b"a" * 200), [-8])
        self.assertEqual(parsed(slow_with_conflict, b"a" * 200), [-7])
        for row in (slow, slow_with_conflict, TWICE_ROW, SUM_ROW):
            self.assertEqual(parsed(row, b"a" * 201), [-3])
            self.assertEqual(parsed(row, [97] * 200 + [256]), [-1])
            self.assertEqual(parsed(row, [97] * 199 + [256]), [-1])
            self.assertEqual(parsed(row, [-1]), [-1])

    def test_a_refusal_leaves_the_object(self):
        found = ask(parse([256]), load(SUM_ROW), parse([256]), parse([97] * 201), STATES, parse(b"a"))
        self.assertEqual(found, [[-1], [0, 6], [-1], [-3], [0, 6], [0, 2, 2, 1]])


class Steps(unittest.TestCase):
    # A list of 1s. An a costs 21 steps: moved on, 19 rules on the way up to 1, one for the list.
    # A b costs 3, a c costs 4. One step more accepts or stops.
    RULES = ([(0, [non(0), non(1)]), (0, [non(1)])] + [(k, [non(k + 1)]) for k in range(1, 19)]
             + [(19, [byte("a")]), (1, [byte("b")]), (2, [byte("c")])])
    ROW = row_of(20, RULES)

    def test_4000_steps_are_enough(self):
        found = parsed(self.ROW, b"a" * 189 + b"b" * 10)
        self.assertEqual(found[:2], [0, 3800])
        self.assertEqual(len(found), 3802)

    def test_few_bytes_with_many_steps(self):
        # An a with 7 times 8 times 8 times 8 rules without symbols ahead of it.
        rules = ([(0, [non(1)] * 7 + [byte("a")])] + [(k, [non(k + 1)] * 8) for k in range(1, 4)] + [(4, [])])
        self.assertEqual(parsed(row_of(5, rules), b"a"), [-8])
        self.assertEqual(parsed(row_of(5, rules), b""), [1, 0])
        # One less: 7 * (1 + 8 + 64) of these, and rule 0.
        found = parsed(row_of(5, rules[:3] + [(3, [])]), b"a")
        self.assertEqual(found[:2], [0, 7 * 73 + 1])
        self.assertEqual(found[2:12], [3] * 8 + [2, 3])

    def test_4001_steps_are_not(self):
        self.assertEqual(parsed(self.ROW, b"a" * 189 + b"b" * 9 + b"c"), [-8])
        self.assertEqual(parsed(self.ROW, b"a" * 200), [-8])

    def test_stopping_is_a_step_too(self):
        # At x nothing may be done, so that the byte before it costs 1 alone, and the x 1.
        self.assertEqual(parsed(self.ROW, b"a" * 190 + b"cc" + b"b" + b"x"), [1, 193])
        self.assertEqual(parsed(self.ROW, b"a" * 190 + b"bbb" + b"b" + b"x"), [-8])


class Reading(unittest.TestCase):
    def test_rules_in_the_order_in_which_they_are_put_together(self):
        self.assertEqual(parsed(SUM_ROW, b"a"), [0, 2, 2, 1])
        self.assertEqual(parsed(SUM_ROW, b"a+a+a"), [0, 6, 2, 1, 2, 0, 2, 0])

    def test_where_reading_stops(self):
        for text, place in ((b"", 0), (b"+", 0), (b"aa", 1), (b"a+", 2), (b"a+a+", 4), (b"ab", 1), (b"b", 0),
                            (b"+a", 0), (b"a++a", 2), (b"a+b", 2), (b"a+ab+a", 3), (b"\0", 0), (b"a\xff", 1)):
            self.assertEqual(parsed(SUM_ROW, text), [1, place], text)

    def test_rules_without_symbols(self):
        row = row_of(1, [(0, [byte("("), non(0), byte(")"), non(0)]), (0, [])])
        self.assertEqual(parsed(row, b""), [0, 1, 1])
        self.assertEqual(parsed(row, b"()"), [0, 3, 1, 1, 0])
        self.assertEqual(parsed(row, b"(())"), [0, 5, 1, 1, 0, 1, 0])
        self.assertEqual(parsed(row, b"())"), [1, 2])

    def test_a_byte_of_no_class_stops_ahead_of_putting_together(self):
        # At the end 2 would be put together; a byte in no range follows nothing.
        self.assertEqual(parsed(SUM_ROW, b"ab"), [1, 1])
        self.assertEqual(parsed(row_of(1, [(0, [])]), b"a"), [1, 0])

    def test_a_range_between_others(self):
        row = row_of(1, [(0, [span(10, 30), span(20, 40)]), (0, [span(50, 60)])])
        self.assertEqual(parsed(row, [10, 40]), [0, 1, 0])
        self.assertEqual(parsed(row, [30, 20]), [0, 1, 0])
        self.assertEqual(parsed(row, [31, 20]), [1, 0])
        self.assertEqual(parsed(row, [10, 19]), [1, 1])
        self.assertEqual(parsed(row, [60]), [0, 1, 1])

    def test_the_text_without_bytes(self):
        self.assertEqual(parsed(SUM_ROW, b""), [1, 0])
        self.assertEqual(parsed([1, 0], b""), [1, 0])
        self.assertEqual(parsed(row_of(1, [(0, [])]), b""), [0, 1, 0])
        self.assertEqual(parsed(row_of(3, [(0, [non(1), non(2), non(1)]), (1, []), (2, [non(1)])]), b""),
                         [0, 5, 1, 1, 2, 1, 0])

    def test_a_start_that_covers_nothing(self):
        row = row_of(1, [(0, [byte("a"), non(0)])])
        self.assertEqual(parsed(row, b"aaa"), [1, 3])
        self.assertEqual(parsed(row, b""), [1, 0])


class Conflicts(unittest.TestCase):
    """Grammars in which one set of bytes more, or one less, makes or unmakes a conflict."""

    # Behind b one may move on over a, and put rule 1 together wherever 1 is followed.
    BASE = [(0, [non(1)]), (1, [byte("b")]), (1, [byte("b"), byte("a")])]

    def test_none(self):
        self.assertEqual(parsed(row_of(2, self.BASE), b"ba"), [0, 2, 2, 0])

    def test_a_useful_rule_that_makes_a_follow(self):
        self.assertEqual(parsed(row_of(2, self.BASE + [(0, [non(1), byte("a")])]), b"ba"), [-7])

    def test_a_rule_that_is_not_productive(self):
        rules = self.BASE + [(0, [non(1), byte("a"), non(2)])]
        self.assertEqual(parsed(row_of(3, rules), b"ba"), [0, 2, 2, 0])
        self.assertEqual(parsed(row_of(3, rules + [(2, [])]), b"ba"), [-7])

    def test_a_rule_that_is_not_reachable(self):
        rules = self.BASE + [(2, [non(1), byte("a")])]
        self.assertEqual(parsed(row_of(3, rules), b"ba"), [0, 2, 2, 0])
        self.assertEqual(parsed(row_of(3, rules + [(0, [non(2)])]), b"ba"), [-7])

    def test_a_rule_reached_only_through_one_that_is_not_productive(self):
        rules = self.BASE + [(2, [non(1), byte("a")]), (0, [byte("x"), non(2), non(3)])]
        self.assertEqual(parsed(row_of(4, rules), b"ba"), [0, 2, 2, 0])
        self.assertEqual(parsed(row_of(4, rules + [(3, [byte("y")])]), b"ba"), [-7])

    def test_what_follows_through_hollow_nonterminals(self):
        rules = self.BASE + [(0, [byte("x"), non(1), non(2), byte("a")]), (2, [byte("c")])]
        self.assertEqual(parsed(row_of(3, rules), b"xbca"), [0, 3, 1, 4, 3])
        self.assertEqual(parsed(row_of(3, rules + [(2, [])]), b"ba"), [-7])

    def test_first_bytes_of_what_stands_behind(self):
        rules = self.BASE + [(0, [byte("x"), non(1), non(2)]), (2, [byte("a")])]
        self.assertEqual(parsed(row_of(3, rules), b"ba"), [-7])
        # 2 does not begin with a if the only rule that does covers nothing.
        rules = self.BASE + [(0, [byte("x"), non(1), non(2)]), (2, [byte("a"), non(2)]), (2, [byte("c")])]
        self.assertEqual(parsed(row_of(3, rules), b"ba"), [-7])
        rules = self.BASE + [(0, [byte("x"), non(1), non(2)]), (2, [byte("a"), non(3)]), (2, [byte("c")])]
        self.assertEqual(parsed(row_of(4, rules), b"ba"), [0, 2, 2, 0])

    def test_what_follows_a_rule_follows_its_last_nonterminal(self):
        rules = self.BASE + [(0, [byte("x"), non(2), byte("a")]), (2, [byte("y"), non(1)])]
        self.assertEqual(parsed(row_of(3, rules), b"ba"), [-7])

    def test_two_rules_to_put_together(self):
        self.assertEqual(parsed(row_of(1, [(0, [byte("a")]), (0, [byte("a")])]), b"a"), [-7])
        rules = [(0, [non(1), byte("x")]), (0, [non(2), byte("y")]), (1, [byte("a")]), (2, [byte("a")])]
        self.assertEqual(parsed(row_of(3, rules), b"ay"), [0, 2, 3, 1])

    def test_accepting_beside_putting_together(self):
        self.assertEqual(parsed(row_of(1, [(0, [non(0)]), (0, [byte("a")])]), b"a"), [-7])

    def test_no_conflict_where_nothing_follows(self):
        # The start covers nothing: both rules are whole in one state, but nowhere put together.
        rules = [(0, [non(1), non(0)]), (1, [byte("a")]), (1, [byte("a")])]
        self.assertEqual(parsed(row_of(2, rules), b"a"), [1, 1])


if __name__ == "__main__":
    unittest.main()
