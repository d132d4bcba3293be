import unittest

from matchboards.errors import BadBoards, BadRule, NotFound
from matchboards.rules import all_rules
from matchboards.running import boards_of, state_after
from matchboards.seeing import can_show, count_rows, first_row, showers, states_behind
from tests import arguments, scoring, searching, wrong

P = (2, "two", 1, "same", "games")
Q = (2, "cap", 1, "same", "winner")
FIRST = (0, 0, 0, 0, 0, 0)
SIGHTS = (0, 1, 2)
FUNCTIONS_OF_ONE = (can_show, first_row, states_behind, count_rows)


def rows_by_boards(rule, sight, length):
    """Return for each board row of a length the rows that show it, in their order."""
    found = {}
    for row in scoring.rows_up_to(length)[2 ** length - 1:]:
        found.setdefault(tuple(searching.seen_row(rule, row, sight)), []).append(row)
    return found


class SeeingTest(unittest.TestCase):
    def check(self, rule, sight, boards, many, row, states):
        """Check all that is told of one rule and one board row."""
        boards = list(boards)
        self.assertEqual(count_rows(rule, sight, boards), many)
        self.assertIs(can_show(rule, sight, boards), many > 0)
        self.assertEqual(states_behind(rule, sight, boards), states)
        if many == 0:
            self.assertRaises(NotFound, first_row, rule, sight, boards)
        else:
            self.assertEqual(first_row(rule, sight, boards), row)

    def check_rows(self, rule, sight, boards, rows):
        states = sorted({scoring.run(rule, row)[0][-1] for row in rows})
        self.check(rule, sight, boards, len(rows), rows[0] if rows else None, states)


class WorkedByHandTest(SeeingTest):
    def test_the_example_of_the_document(self):
        self.assertEqual(count_rows(P, 1, [0, 0]), 2)
        self.check(P, 1, [0, 0], 2, [0, 1], [(0, 1, 1, 0, 0, 0)])

    def test_the_empty_board_row(self):
        for rule in all_rules():
            for sight in SIGHTS:
                self.check(rule, sight, [], 1, [], [FIRST])

    def test_a_game_won_by_either_side(self):
        self.check(P, 1, [0, 1], 2, [0, 0], [(1, 0, 0, 0, 1, 0), (1, 0, 0, 1, 0, 0)])
        self.check(P, 1, [1, 1], 0, None, [])
        self.check(P, 2, [(0, 0), (1, 0)], 1, [0, 0], [(1, 0, 0, 1, 0, 0)])
        self.check(P, 0, [(0, 0, 1, 0, 0), (0, 1, 1, 0, 0)], 1, [1, 0], [(0, 1, 1, 0, 0, 0)])
        self.check(P, 0, [(0, 0, 1, 0, 0), (0, 2, 0, 0, 0)], 0, None, [])

    def test_long_games_of_two_ahead(self):
        # Each two rallies are shared by the sides, in two ways.
        boards = [(0, 0)] * 60
        self.check(P, 2, boards, 2 ** 30, [0, 1] * 30, [(0, 1, 1, 0, 0, 0)])
        self.check(P, 2, boards[:59], 2 ** 30, [0, 1] * 29 + [0], [(0, 1, 2, 0, 0, 0), (0, 2, 1, 0, 0, 0)])

    def test_rallies_behind_the_match(self):
        boards = [(0, 0)] + [(0, 1)] * 59
        self.check(P, 2, boards, 2 ** 58, [1, 1] + [0] * 58, [(1, 0, 0, 0, 1, 0)])
        self.check(P, 1, [0, 1] + [1] * 58, 2 ** 59, [0] * 60, [(1, 0, 0, 0, 1, 0), (1, 0, 0, 1, 0, 0)])
        self.check(P, 2, boards[:59] + [(1, 1)], 0, None, [])

    def test_boards_that_no_rule_shows(self):
        for rule in all_rules():
            self.check(rule, 0, [(1, 5, 5, 3, 3)], 0, None, [])
            self.check(rule, 2, [(3, 3)], 0, None, [])
            self.check(rule, 2, [(1, 0)], 0, None, [])


class AllRowsTest(SeeingTest):
    def compare(self, rule, sight, length):
        found = rows_by_boards(rule, sight, length)
        for boards, rows in found.items():
            self.check_rows(rule, sight, boards, rows)
        for boards in list(found)[::3]:
            for at in range(length):
                other = searching.changed(boards, at, sight)
                self.check_rows(rule, sight, other, found.get(tuple(other), []))

    def test_all_rules_and_short_rows(self):
        for rule in all_rules():
            for sight in SIGHTS:
                for length in (1, 2, 3, 4):
                    self.compare(rule, sight, length)

    def test_some_rules_and_longer_rows(self):
        rules = [P, Q, (2, "one", 2, "longer", "only"), (2, "one", 3, "same", "twos"), (3, "two", 1, "same", "winner")]
        for rule in rules:
            for sight in SIGHTS:
                self.compare(rule, sight, 9)

    def test_all_serving_sides(self):
        for rule in all_rules()[::7] + [P, Q]:
            for length in (3, 6):
                found = rows_by_boards(rule, 1, length)
                for boards in scoring.rows_up_to(length)[2 ** length - 1:]:
                    self.check_rows(rule, 1, boards, found.get(tuple(boards), []))

    def test_each_row_shows_one_board_row(self):
        for rule in all_rules()[::7]:
            for sight in SIGHTS:
                shown = {tuple(boards_of(rule, row, sight)) for row in scoring.rows_up_to(7)[127:]}
                self.assertEqual(sum(count_rows(rule, sight, list(boards)) for boards in shown), 128)


class LongRowsTest(SeeingTest):
    def test_long_board_rows_against_another_search(self):
        many = []
        for k, rule in enumerate(all_rules()):
            row = scoring.long_rows()[k % 16]
            for sight in SIGHTS:
                for length in (60, 23 + k % 30)[k % 3 % 2:]:
                    boards = searching.seen_row(rule, row[:length], sight)
                    expected = searching.rows_that_show(rule, sight, boards)
                    self.assertGreater(expected[0], 0)
                    self.check(rule, sight, boards, *expected)
                    many.append((expected[0], sight))
        for sight in SIGHTS:
            self.assertGreater(max(count for count, seen in many if seen == sight), 2 ** 40)
        self.assertGreater(len([count for count, seen in many if seen == 2 and count > 2 ** 20]), 50)

    def test_long_board_rows_with_one_changed(self):
        lost = 0
        for k, rule in enumerate(all_rules()[::3]):
            row = scoring.long_rows()[k % 16]
            for sight in SIGHTS:
                boards = searching.changed(searching.seen_row(rule, row, sight), (k * 7) % 60, sight)
                expected = searching.rows_that_show(rule, sight, boards)
                self.check(rule, sight, boards, *expected)
                lost += expected[0] == 0
        self.assertGreater(lost, 50)

    def test_the_first_row_shows_the_boards(self):
        for k, rule in enumerate(all_rules()):
            row = scoring.long_rows()[(k * 3) % 16]
            for sight in SIGHTS:
                boards = boards_of(rule, row, sight)
                first = first_row(rule, sight, boards)
                self.assertEqual(boards_of(rule, first, sight), boards)
                self.assertLessEqual(first, row)
                self.assertIn(state_after(rule, row), states_behind(rule, sight, boards))
                self.assertIn(state_after(rule, first), states_behind(rule, sight, boards))

    def test_the_same_serving_side_all_along(self):
        for rule in all_rules()[::5] + [P, Q]:
            for side in (0, 1):
                boards = [side] * 60
                self.check(rule, 1, boards, *searching.rows_that_show(rule, 1, boards))


class ShowersTest(unittest.TestCase):
    def test_worked_by_hand(self):
        self.assertEqual(showers([P, Q], 0, [(0, 1, 0, 0, 0), (0, 1, 1, 0, 0)]), [0])
        self.assertEqual(showers([Q, P, Q], 0, [(0, 1, 0, 0, 0), (1, 1, 1, 0, 0)]), [0, 2])
        self.assertEqual(showers([P, Q], 1, [1]), [1])
        self.assertEqual(showers([P, Q], 2, [(0, 0), (1, 1)]), [])
        self.assertEqual(showers([P, Q], 2, []), [0, 1])

    def test_families_of_all_sizes(self):
        rules = all_rules()
        sizes = {}
        for k in range(24):
            family = [rules[(k * 17 + at * 25) % 216] for at in range(k % 8 + 1)]
            row = scoring.long_rows()[k % 16][:(5, 12, 60)[k % 3]]
            for sight in SIGHTS:
                for maker in (family[0], family[-1], rules[k]):
                    boards = searching.seen_row(maker, row, sight)
                    expected = [
                        place for place, rule in enumerate(family)
                        if searching.rows_that_show(rule, sight, boards)[0] > 0
                    ]
                    self.assertEqual(showers(family, sight, boards), expected)
                    sizes[len(expected)] = True
        self.assertGreater(len(sizes), 4)

    def test_equal_rules_stand_for_themselves(self):
        self.assertEqual(showers([P] * 8, 1, [0, 0, 0]), list(range(8)))
        self.assertEqual(showers([P] * 8, 1, [1]), [])


class ArgumentsTest(unittest.TestCase):
    def test_wrong_arguments(self):
        for sight in SIGHTS:
            boards = [wrong.GOOD_BOARDS[sight]]
            for function in FUNCTIONS_OF_ONE:
                arguments.check_wrong_arguments(
                    self, function, ("rule", "sight", "boards"), (P, sight, boards), sight)
            arguments.check_wrong_arguments(
                self, showers, ("family", "sight", "boards"), ([P, Q], sight, boards), sight)

    def test_limits_of_lists(self):
        for sight in SIGHTS:
            board = wrong.GOOD_BOARDS[sight]
            for function in (can_show, states_behind, count_rows):
                function(P, sight, [board] * 60)
            for function in FUNCTIONS_OF_ONE:
                arguments.assert_raises_just(self, BadBoards, function, (P, sight, [board] * 61))
            showers([P] * 8, sight, [board] * 60)
            arguments.assert_raises_just(self, BadRule, showers, ([P] * 9, sight, [board] * 60))
            arguments.assert_raises_just(self, BadRule, showers, ([], sight, [board]))
            arguments.assert_raises_just(self, BadBoards, showers, ([P] * 8, sight, [board] * 61))

    def test_boards_of_another_sight(self):
        for sight in SIGHTS:
            for other in SIGHTS:
                if other != sight:
                    boards = [wrong.GOOD_BOARDS[other]]
                    for function in FUNCTIONS_OF_ONE:
                        arguments.assert_raises_just(self, BadBoards, function, (P, sight, boards))
                    arguments.assert_raises_just(self, BadBoards, showers, ([P], sight, boards))

    def test_a_wrong_board_behind_one_that_is_never_seen(self):
        for function in FUNCTIONS_OF_ONE:
            arguments.assert_raises_just(self, BadBoards, function, (P, 1, [1, 1, 2]))
            arguments.assert_raises_just(self, BadBoards, function, (P, 2, [(3, 3), (4, 0)]))

    def test_calls_change_nothing_and_lists_are_new(self):
        for sight in SIGHTS:
            for row in ([], [0, 1, 1, 0], [1] * 9):
                boards = searching.seen_row(Q, row, sight)
                for function in FUNCTIONS_OF_ONE:
                    arguments.check_call(self, function, (P, sight, boards))
                    arguments.check_call(self, function, (Q, sight, boards))
                arguments.check_call(self, showers, ([P, Q, P], sight, boards))

    def test_a_first_row_that_equals_the_boards_is_another_list(self):
        boards = [0, 1, 1]
        row = first_row(Q, 1, boards)
        self.assertEqual(row, boards)
        row.clear()
        self.assertEqual(boards, [0, 1, 1])


if __name__ == "__main__":
    unittest.main()
