import unittest

from matchboards.rules import all_rules, is_rally, is_row, is_rule
from tests import wrong

LEADS = ("one", "two", "cap")
DECIDERS = ("same", "longer")
SERVES = ("games", "twos", "winner", "only")


class IsRuleTest(unittest.TestCase):
    def test_all_items_of_the_document(self):
        for points in (2, 3, 4):
            for lead in LEADS:
                for games in (1, 2, 3):
                    for decider in DECIDERS:
                        for serve in SERVES:
                            self.assertIs(is_rule((points, lead, games, decider, serve)), True)

    def test_limits_of_points(self):
        for points, valid in [(-1, False), (0, False), (1, False), (2, True), (4, True), (5, False)]:
            self.assertIs(is_rule((points, "one", 2, "longer", "only")), valid)

    def test_limits_of_games(self):
        for games, valid in [(-1, False), (0, False), (1, True), (3, True), (4, False)]:
            self.assertIs(is_rule((3, "cap", games, "same", "twos")), valid)

    def test_wrong_values(self):
        for value in wrong.wrong_rules():
            with self.subTest(value=repr(value)):
                self.assertIs(is_rule(value), False)

    def test_true_is_not_one_game(self):
        self.assertIs(is_rule((2, "one", True, "same", "games")), False)
        self.assertIs(is_rule((2, "one", 1, "same", "games")), True)


class IsRallyTest(unittest.TestCase):
    def test_the_two_sides(self):
        self.assertIs(is_rally(0), True)
        self.assertIs(is_rally(1), True)

    def test_wrong_values(self):
        for value in wrong.wrong_rallies():
            with self.subTest(value=repr(value)):
                self.assertIs(is_rally(value), False)


class IsRowTest(unittest.TestCase):
    def test_ordinary_rows(self):
        for row in ([], [0], [1], [0, 1, 1], [1] * 7, [0, 1] * 20):
            self.assertIs(is_row(row), True)

    def test_sixty_rallies_and_more(self):
        for length, valid in [(59, True), (60, True), (61, False), (62, False), (200, False)]:
            self.assertIs(is_row([1] * length), valid)

    def test_wrong_values(self):
        for value in wrong.wrong_rows():
            with self.subTest(value=repr(value)):
                self.assertIs(is_row(value), False)

    def test_a_row_is_not_changed(self):
        row = [0, 1, 1, 0]
        is_row(row)
        self.assertEqual(row, [0, 1, 1, 0])
        bad = [0, 2, None]
        is_row(bad)
        self.assertEqual(bad, [0, 2, None])


class AllRulesTest(unittest.TestCase):
    def test_there_are_216_different_rules(self):
        rules = all_rules()
        self.assertIsInstance(rules, list)
        self.assertEqual(len(rules), 216)
        self.assertEqual(len(set(rules)), 216)
        for rule in rules:
            self.assertIsInstance(rule, tuple)
            self.assertIs(is_rule(rule), True)

    def test_the_order(self):
        def place(rule):
            points, lead, games, decider, serve = rule
            return points, LEADS.index(lead), games, DECIDERS.index(decider), SERVES.index(serve)

        rules = all_rules()
        self.assertEqual([place(rule) for rule in rules], sorted(place(rule) for rule in rules))

    def test_some_places(self):
        rules = all_rules()
        self.assertEqual(rules[0], (2, "one", 1, "same", "games"))
        self.assertEqual(rules[1], (2, "one", 1, "same", "twos"))
        self.assertEqual(rules[2], (2, "one", 1, "same", "winner"))
        self.assertEqual(rules[3], (2, "one", 1, "same", "only"))
        self.assertEqual(rules[4], (2, "one", 1, "longer", "games"))
        self.assertEqual(rules[8], (2, "one", 2, "same", "games"))
        self.assertEqual(rules[24], (2, "two", 1, "same", "games"))
        self.assertEqual(rules[48], (2, "cap", 1, "same", "games"))
        self.assertEqual(rules[72], (3, "one", 1, "same", "games"))
        self.assertEqual(rules[215], (4, "cap", 3, "longer", "only"))

    def test_each_call_returns_a_new_list(self):
        first = all_rules()
        self.assertIsNot(first, all_rules())
        first.clear()
        self.assertEqual(len(all_rules()), 216)


if __name__ == "__main__":
    unittest.main()
