import unittest

from matchboards.errors import BadBoards, NotFound
from matchboards.reaching import boards_that_come, count_states, row_to
from matchboards.rules import all_rules
from matchboards.running import state_after
from tests import arguments, scoring, searching

P = (2, "two", 1, "same", "games")
Q = (2, "cap", 1, "same", "winner")
FIRST = (0, 0, 0, 0, 0, 0)


def all_forms():
    """Return all tuples that have the form of a state."""
    return [
        (serving, zero, one, games_zero, games_one, turn)
        for serving in range(2)
        for zero in range(6)
        for one in range(6)
        for games_zero in range(4)
        for games_one in range(4)
        for turn in range(2)
    ]


class CountStatesTest(unittest.TestCase):
    def test_worked_by_hand(self):
        # 0-0, 1-0, 0-1, 1-1, 2-1, 1-2 and the two ends.
        self.assertEqual(count_states(P), 8)
        # 0-0, 1-0, 0-1, 1-1 and the two ends; with "winner" 1-1 has either serving side.
        self.assertEqual(count_states((2, "one", 1, "same", "games")), 6)
        self.assertEqual(count_states((2, "one", 1, "same", "winner")), 7)
        self.assertEqual(count_states((2, "one", 1, "same", "twos")), 6)
        # 0-0, 1-0, 0-1, 1-1 with each serving side, and the two ends.
        self.assertEqual(count_states((2, "one", 1, "same", "only")), 10)

    def test_all_rules_against_another_search(self):
        for rule in all_rules():
            self.assertEqual(count_states(rule), len(searching.machine(rule)), rule)

    def test_a_longer_only_game_is_one_of_more_points(self):
        for rule in all_rules():
            if rule[0] < 4 and rule[2] == 1 and rule[3] == "longer":
                longer = (rule[0] + 1, rule[1], 1, "same", rule[4])
                self.assertEqual(count_states(rule), count_states(longer))
                self.assertEqual(boards_that_come(rule), boards_that_come(longer))


class RowToTest(unittest.TestCase):
    def test_worked_by_hand(self):
        self.assertEqual(row_to(P, (0, 1, 1, 0, 0, 0)), [0, 1])
        self.assertEqual(row_to(P, (0, 1, 2, 0, 0, 0)), [0, 1, 1])
        self.assertEqual(row_to(P, (1, 0, 0, 0, 1, 0)), [1, 1])
        self.assertEqual(row_to(Q, (1, 1, 1, 0, 0, 0)), [0, 1])
        self.assertEqual(row_to(Q, (0, 1, 1, 0, 0, 0)), [1, 0])
        self.assertEqual(row_to(Q, (0, 2, 1, 0, 0, 0)), [0, 1, 0])
        self.assertEqual(row_to((2, "one", 1, "same", "only"), (1, 0, 0, 0, 1, 0)), [1, 1, 1])

    def test_the_first_state_is_behind_the_empty_row(self):
        for rule in all_rules():
            self.assertEqual(row_to(rule, FIRST), [])

    def test_states_that_all_rows_up_to_eight_rallies_lead_to(self):
        rows = scoring.rows_up_to(8)
        for rule in all_rules()[::5] + [P, Q]:
            first = {}
            for row in rows:
                first.setdefault(state_after(rule, row), row)
            for state, row in first.items():
                self.assertEqual(row_to(rule, state), row)

    def test_all_states_of_some_rules_against_another_search(self):
        depths = []
        for rule in all_rules()[::5] + [(4, "two", 3, "longer", "only"), (4, "cap", 3, "longer", "twos")]:
            least = searching.least_rows(rule)
            self.assertEqual(len(least), len(searching.machine(rule)))
            for state, row in least.items():
                self.assertEqual(row_to(rule, state), row)
                self.assertEqual(scoring.run(rule, row)[0][-1], state)
                depths.append(len(row))
        self.assertGreater(max(depths), 25)

    def test_states_that_do_not_come(self):
        for rule in (P, Q, (2, "one", 2, "longer", "twos"), (3, "two", 3, "same", "only")):
            come = searching.machine(rule)
            for state in all_forms()[::3] + sorted(come):
                if state not in come:
                    self.assertRaises(NotFound, row_to, rule, state)
                else:
                    self.assertEqual(state_after(rule, row_to(rule, state)), state)

    def test_states_that_no_rule_of_one_game_has(self):
        for state in ((0, 0, 0, 2, 0, 0), (0, 0, 0, 1, 1, 0), (1, 0, 0, 0, 0, 0), (0, 0, 0, 0, 0, 1), (1, 5, 5, 3, 3, 1)):
            arguments.assert_raises_just(self, NotFound, row_to, (P, state))

    def test_the_limits_of_a_state(self):
        limits = (1, 5, 5, 3, 3, 1)
        for at, limit in enumerate(limits):
            good = limits[:at] + (limit,) + limits[at + 1:]
            arguments.assert_raises_just(self, NotFound, row_to, (P, good))
            for beyond in (limit + 1, -1):
                bad = limits[:at] + (beyond,) + limits[at + 1:]
                arguments.assert_raises_just(self, BadBoards, row_to, (P, bad))
        for state in ((0,) * 5, (0,) * 7, [0] * 6, (False,) + (0,) * 5, (0, True, 0, 0, 0, 0), None, "000000"):
            arguments.assert_raises_just(self, BadBoards, row_to, (P, state))


class BoardsThatComeTest(unittest.TestCase):
    def test_worked_by_hand(self):
        self.assertEqual(
            boards_that_come(P),
            [
                (0, 0, 0, 0, 0), (0, 0, 1, 0, 0), (0, 1, 0, 0, 0), (0, 1, 1, 0, 0), (0, 1, 2, 0, 0), (0, 2, 1, 0, 0),
                (1, 0, 0, 0, 1), (1, 0, 0, 1, 0),
            ],
        )

    def test_all_rules_against_another_search(self):
        for rule in all_rules():
            boards = boards_that_come(rule)
            self.assertIs(type(boards), list)
            self.assertEqual(boards, sorted({state[:5] for state in searching.machine(rule)}))
            self.assertEqual(len(boards), len(set(boards)))


class ArgumentsTest(unittest.TestCase):
    def test_wrong_arguments(self):
        arguments.check_wrong_arguments(self, count_states, ("rule",), (P,), 0)
        arguments.check_wrong_arguments(self, boards_that_come, ("rule",), (P,), 0)
        arguments.check_wrong_arguments(self, row_to, ("rule", "state"), (P, FIRST), 0)

    def test_calls_change_nothing_and_lists_are_new(self):
        for rule in (P, Q, (3, "cap", 2, "longer", "only")):
            arguments.check_call(self, count_states, (rule,))
            arguments.check_call(self, boards_that_come, (rule,))
            for state in (FIRST, (0, 1, 1, 0, 0, 0), (1, 0, 0, 0, 1, 0), (0, 0, 0, 3, 3, 0)):
                arguments.check_call(self, row_to, (rule, state))


if __name__ == "__main__":
    unittest.main()
