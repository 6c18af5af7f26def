"""The document's examples, and the object as it is ahead of any load."""

import unittest

from support import (CLASSES, CONFLICTS, END, STATES, SUM_ROW, TWICE_ROW, acts, ask, ask_of, complete, go, items, load,
                     moves, parse)


class Examples(unittest.TestCase):
    def test_load_of_the_first_grammar_answers_6_states(self):
        self.assertEqual(ask(load(SUM_ROW), STATES), [[0, 6], [0, 6]])

    def test_classes_of_the_first_grammar(self):
        self.assertEqual(ask_of(SUM_ROW, CLASSES), [[0, 2, 43, 43, 97, 97]])

    def test_items_of_state_0(self):
        self.assertEqual(ask_of(SUM_ROW, items(0)), [[0, 4, 0, 0, 1, 0, 2, 0, 3, 0]])

    def test_moves_of_state_0(self):
        self.assertEqual(ask_of(SUM_ROW, moves(0)), [[0, 3, 0, 0, 1, 0, 1, 2, 1, 1, 3]])

    def test_the_second_grammar_has_4_states(self):
        self.assertEqual(ask(load(TWICE_ROW), STATES), [[0, 4], [0, 4]])

    def test_parse_of_the_first_grammar(self):
        found = ask_of(SUM_ROW, parse(b"a+a"), parse(b"a++"))
        self.assertEqual(found, [[0, 4, 2, 1, 2, 0], [1, 2]])

    def test_conflicts_of_the_first_grammar(self):
        self.assertEqual(ask_of(SUM_ROW, CONFLICTS), [[0, 0]])

    def test_the_one_conflict_of_the_second_grammar(self):
        self.assertEqual(ask_of(TWICE_ROW, CONFLICTS), [[0, 1, 3, 0, 2]])
        self.assertEqual(ask_of(TWICE_ROW, go(0, [0, 0, 0, 0]), acts(3, 97)), [[0, 3], [0, 2, 0, 2, 1, 0]])

    def test_parse_of_the_second_grammar(self):
        self.assertEqual(ask_of(TWICE_ROW, parse(b"aa")), [[-7]])


class NewObject(unittest.TestCase):
    def test_states_and_classes(self):
        self.assertEqual(ask(STATES, CLASSES), [[0, 2], [0, 0]])

    def test_items(self):
        self.assertEqual(ask(items(0), items(1), items(2)), [[0, 1, 0, 0], [0, 1, 0, 1], [-4]])

    def test_moves(self):
        self.assertEqual(ask(moves(0), moves(1), moves(2)), [[0, 1, 0, 0, 1], [0, 0], [-4]])

    def test_complete(self):
        self.assertEqual(ask(complete(0), complete(1), complete(2)), [[0, 0], [0, 1, 0], [-4]])

    def test_acts(self):
        self.assertEqual(ask(acts(0, 0), acts(0, 255), acts(0, END)), [[0, 0], [0, 0], [0, 0]])
        self.assertEqual(ask(acts(1, 0), acts(1, 255), acts(1, END)), [[0, 0], [0, 0], [0, 1, 2, 0]])
        self.assertEqual(ask(acts(2, 0), acts(0, 257), acts(2, 257)), [[-4], [-5], [-4]])

    def test_go(self):
        self.assertEqual(ask(go(0, []), go(1, []), go(2, [])), [[0, 0], [0, 1], [-4]])
        self.assertEqual(ask(go(0, [0, 0]), go(1, [0, 0]), go(0, [0, 0, 0, 0])), [[0, 1], [1, 0], [1, 1]])
        self.assertEqual(ask(go(0, [1, 97]), go(0, [0, 1]), go(0, [0])), [[1, 0], [-5], [-5]])

    def test_conflicts(self):
        self.assertEqual(ask(CONFLICTS), [[0, 0]])

    def test_parse_stops_at_once(self):
        self.assertEqual(ask(parse(b""), parse(b"a")), [[1, 0], [1, 0]])

    def test_it_is_the_same_as_the_grammar_of_one_nonterminal_and_no_rules(self):
        calls = [STATES, CLASSES, items(0), items(1), moves(0), moves(1), complete(1), acts(0, END), acts(1, END),
                 go(0, [0, 0]), CONFLICTS, parse(b"")]
        self.assertEqual(ask_of([1, 0], *calls), ask(*calls))


if __name__ == "__main__":
    unittest.main()
