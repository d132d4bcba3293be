import unittest

from matchboards.errors import BadNumber, BadRally, BadRule, NotFound
from matchboards.rules import all_rules
from matchboards.running import boards_of, end_of, points_made, state_after, states_along, winner_of
from tests import scoring, wrong

P = (2, "two", 1, "same", "games")
Q = (2, "cap", 1, "same", "winner")
FIRST = (0, 0, 0, 0, 0, 0)
WITHOUT_SIGHT = (state_after, states_along, points_made, winner_of, end_of)


class WorkedByHandTest(unittest.TestCase):
    def test_the_example_of_the_document(self):
        self.assertEqual(boards_of(P, [0, 1, 1], 0), [(0, 1, 0, 0, 0), (0, 1, 1, 0, 0), (0, 1, 2, 0, 0)])

    def test_the_three_sights(self):
        rule = (2, "one", 2, "same", "games")
        row = [1, 1, 0, 0, 1]
        self.assertEqual(
            boards_of(rule, row, 0),
            [(0, 0, 1, 0, 0), (1, 0, 0, 0, 1), (1, 1, 0, 0, 1), (0, 0, 0, 1, 1), (0, 0, 1, 1, 1)],
        )
        self.assertEqual(boards_of(rule, row, 1), [0, 1, 1, 0, 0])
        self.assertEqual(boards_of(rule, row, 2), [(0, 0), (0, 1), (0, 1), (1, 1), (1, 1)])

    def test_the_board_does_not_show_the_turn(self):
        rule = (4, "one", 1, "same", "twos")
        self.assertEqual(state_after(rule, [0]), (0, 1, 0, 0, 0, 1))
        self.assertEqual(boards_of(rule, [0], 0), [(0, 1, 0, 0, 0)])

    def test_the_empty_row(self):
        for rule in all_rules():
            for sight in (0, 1, 2):
                self.assertEqual(boards_of(rule, [], sight), [])
            self.assertEqual(state_after(rule, []), FIRST)
            self.assertEqual(states_along(rule, []), [FIRST])
            self.assertEqual(points_made(rule, []), (0, 0))
            self.assertIsNone(winner_of(rule, []))
            self.assertRaises(NotFound, end_of, rule, [])

    def test_lead_one_with_serve_games(self):
        rule = (3, "one", 2, "same", "games")
        row = [0, 0, 1, 0, 1, 1, 1, 0, 0, 0, 1, 1]
        self.assertEqual(
            states_along(rule, row),
            [
                FIRST, (0, 1, 0, 0, 0, 0), (0, 2, 0, 0, 0, 0), (0, 2, 1, 0, 0, 0), (1, 0, 0, 1, 0, 0),
                (1, 0, 1, 1, 0, 0), (1, 0, 2, 1, 0, 0), (0, 0, 0, 1, 1, 0),
                (0, 1, 0, 1, 1, 0), (0, 2, 0, 1, 1, 0), (1, 0, 0, 2, 1, 0),
                (1, 0, 0, 2, 1, 0), (1, 0, 0, 2, 1, 0),
            ],
        )
        self.assertEqual(points_made(rule, row), (6, 4))
        self.assertEqual(winner_of(rule, row), 0)
        self.assertEqual(end_of(rule, row), 10)

    def test_lead_two_sets_the_points_anew(self):
        row = [0, 1] * 4 + [1, 1, 0]
        self.assertEqual(
            states_along(P, row),
            [FIRST, (0, 1, 0, 0, 0, 0), (0, 1, 1, 0, 0, 0)]
            + [(0, 2, 1, 0, 0, 0), (0, 1, 1, 0, 0, 0)] * 3
            + [(0, 1, 2, 0, 0, 0), (1, 0, 0, 0, 1, 0), (1, 0, 0, 0, 1, 0)],
        )
        self.assertEqual(points_made(P, row), (4, 6))
        self.assertEqual(end_of(P, row), 10)
        self.assertEqual(winner_of(P, row), 1)

    def test_lead_two_with_all_points_and_deciders(self):
        for points in (2, 3, 4):
            for decider, more in (("same", 0), ("longer", 1)):
                rule = (points, "two", 1, decider, "games")
                low = points + more - 1
                self.assertEqual(state_after(rule, [0, 1] * 29), (0, low, low, 0, 0, 0))
                self.assertEqual(state_after(rule, [0, 1] * 29 + [0]), (0, low + 1, low, 0, 0, 0))
                self.assertEqual(state_after(rule, [0, 1] * 29 + [1]), (0, low, low + 1, 0, 0, 0))
                self.assertEqual(state_after(rule, [0, 1] * 29 + [1, 1]), (1, 0, 0, 0, 1, 0))
                self.assertEqual(points_made(rule, [0, 1] * 29 + [1, 1]), (29, 31))

    def test_lead_two_is_no_cap_and_no_lead_one(self):
        self.assertIsNone(winner_of((3, "two", 1, "same", "games"), [0, 1, 0, 1, 0, 1, 0]))
        self.assertIsNone(winner_of((3, "two", 1, "same", "games"), [0, 0, 1, 1, 1]))
        self.assertEqual(winner_of((3, "two", 1, "same", "games"), [0, 0, 1, 0]), 0)

    def test_lead_two_needs_the_wanted_points(self):
        self.assertEqual(state_after((4, "two", 1, "same", "games"), [0, 0, 0]), (0, 3, 0, 0, 0, 0))
        self.assertEqual(state_after((4, "cap", 1, "same", "games"), [1, 1, 1]), (0, 0, 3, 0, 0, 0))

    def test_lead_cap(self):
        self.assertEqual(
            states_along(Q, [0, 1, 0, 1, 1, 0]),
            [
                FIRST, (0, 1, 0, 0, 0, 0), (1, 1, 1, 0, 0, 0), (0, 2, 1, 0, 0, 0), (1, 2, 2, 0, 0, 0),
                (1, 0, 0, 0, 1, 0), (1, 0, 0, 0, 1, 0),
            ],
        )
        self.assertEqual(points_made(Q, [0, 1, 0, 1, 1, 0]), (2, 3))
        self.assertEqual(end_of(Q, [0, 1, 0, 1, 1, 0]), 5)
        self.assertEqual(end_of(Q, [1, 1, 0]), 2)
        self.assertEqual(end_of(Q, [1, 0, 1, 1]), 4)

    def test_lead_cap_does_not_set_the_points(self):
        rule = (4, "cap", 1, "longer", "games")
        self.assertEqual(state_after(rule, [0, 1] * 5), (0, 5, 5, 0, 0, 0))
        self.assertEqual(state_after(rule, [0, 1] * 5 + [0]), (1, 0, 0, 1, 0, 0))

    def test_serve_twos(self):
        rule = (4, "one", 2, "same", "twos")
        self.assertEqual(
            states_along(rule, [0, 0, 0, 1, 0, 1, 1, 0, 0, 0, 0, 1]),
            [
                FIRST, (0, 1, 0, 0, 0, 1), (1, 2, 0, 0, 0, 0), (1, 3, 0, 0, 0, 1), (0, 3, 1, 0, 0, 0),
                (1, 0, 0, 1, 0, 0), (1, 0, 1, 1, 0, 1), (0, 0, 2, 1, 0, 0), (0, 1, 2, 1, 0, 1), (1, 2, 2, 1, 0, 0),
                (1, 3, 2, 1, 0, 1), (0, 0, 0, 2, 0, 0), (0, 0, 0, 2, 0, 0),
            ],
        )

    def test_serve_twos_in_a_long_game(self):
        rule = (2, "two", 1, "same", "twos")
        serves = [(0, 0), (0, 1), (1, 0), (1, 1)]
        states = states_along(rule, [0, 1] * 30)
        self.assertEqual([(state[0], state[5]) for state in states], serves * 15 + serves[:1])

    def test_serve_winner(self):
        rule = (2, "one", 3, "same", "winner")
        self.assertEqual(boards_of(rule, [0, 1, 1, 0, 0, 1, 1, 0], 1), [0, 1, 1, 0, 0, 1, 1, 0])
        self.assertEqual(state_after(rule, [0, 1, 1, 0, 0, 1, 1, 0]), (0, 1, 0, 1, 2, 0))

    def test_serve_only(self):
        rule = (2, "one", 1, "same", "only")
        self.assertEqual(
            states_along(rule, [1, 1, 0, 1, 1, 0]),
            [
                FIRST, (1, 0, 0, 0, 0, 0), (1, 0, 1, 0, 0, 0), (0, 0, 1, 0, 0, 0), (1, 0, 1, 0, 0, 0),
                (1, 0, 0, 0, 1, 0), (1, 0, 0, 0, 1, 0),
            ],
        )
        self.assertEqual(points_made(rule, [1, 1, 0, 1, 1, 0]), (0, 2))
        self.assertEqual(end_of(rule, [1, 1, 0, 1, 1, 0]), 5)

    def test_serve_only_without_any_point(self):
        for rule in all_rules():
            if rule[4] == "only":
                self.assertEqual(state_after(rule, [1, 0] * 30), FIRST)
                self.assertEqual(points_made(rule, [1, 0] * 30), (0, 0))

    def test_serve_only_behind_a_game(self):
        rule = (2, "one", 2, "same", "only")
        self.assertEqual(state_after(rule, [1, 1, 1]), (1, 0, 0, 0, 1, 0))
        self.assertEqual(state_after(rule, [1, 1, 1, 0, 0, 0]), (0, 0, 0, 1, 1, 0))
        self.assertEqual(state_after(rule, [0, 0]), (0, 0, 0, 1, 0, 0))

    def test_the_longer_game(self):
        rule = (2, "one", 2, "longer", "games")
        row = [0, 0, 1, 1, 1, 0, 1, 0, 1, 0]
        self.assertEqual(
            boards_of(rule, row, 2),
            [(0, 0), (1, 0), (1, 0), (1, 0), (1, 1), (1, 1), (1, 1), (1, 1), (1, 1), (2, 1)],
        )
        self.assertEqual(end_of((2, "one", 2, "same", "games"), row), 7)

    def test_one_side_near_makes_the_game_longer_for_both(self):
        rule = (2, "one", 2, "longer", "games")
        self.assertEqual(state_after(rule, [0, 0, 1, 1]), (1, 0, 2, 1, 0, 0))
        self.assertEqual(state_after(rule, [1, 1, 0, 0]), (1, 2, 0, 0, 1, 0))
        self.assertEqual(state_after(rule, [1, 1, 1, 1]), (1, 0, 2, 0, 1, 0))

    def test_the_only_game_is_longer(self):
        self.assertEqual(end_of((3, "one", 1, "longer", "games"), [0] * 10), 4)
        self.assertEqual(end_of((3, "one", 1, "same", "games"), [0] * 10), 3)

    def test_of_three_games_those_at_two_are_longer(self):
        rule = (3, "one", 3, "longer", "games")
        self.assertEqual(end_of(rule, [1] * 12), 10)
        self.assertEqual(end_of(rule, [1] * 3 + [0] * 3 + [1] * 3 + [0] * 4 + [1] * 4), 17)

    def test_the_serving_side_behind_the_last_game(self):
        self.assertEqual(state_after((2, "one", 1, "same", "games"), [0, 0]), (1, 0, 0, 1, 0, 0))
        self.assertEqual(state_after((2, "one", 1, "same", "twos"), [0, 0]), (1, 0, 0, 1, 0, 0))
        self.assertEqual(state_after((2, "one", 1, "same", "twos"), [0, 1, 0]), (1, 0, 0, 1, 0, 0))
        self.assertEqual(state_after((2, "one", 1, "same", "winner"), [0, 0]), (0, 0, 0, 1, 0, 0))
        self.assertEqual(state_after((2, "one", 1, "same", "only"), [1, 1, 1]), (1, 0, 0, 0, 1, 0))
        self.assertEqual(state_after((2, "one", 2, "same", "games"), [0, 0, 0, 0]), (0, 0, 0, 2, 0, 0))
        self.assertEqual(state_after((2, "one", 2, "same", "twos"), [0, 0, 1, 0, 0]), (0, 0, 0, 2, 0, 0))

    def test_behind_the_end_nothing_changes(self):
        for rule in all_rules():
            row = [0] * 20
            end = end_of(rule, row)
            for more in ([0] * 9, [1] * 9, [1, 0, 0, 1, 1, 0]):
                longer = row[:end] + more
                self.assertEqual(state_after(rule, longer), state_after(rule, row[:end]))
                self.assertEqual(points_made(rule, longer), points_made(rule, row[:end]))
                self.assertEqual(winner_of(rule, longer), 0)
                self.assertEqual(end_of(rule, longer), end)
                self.assertEqual(len(boards_of(rule, longer, 1)), len(longer))


class SecondScorerTest(unittest.TestCase):
    """Compares with a scorer that is written otherwise, for each of the 216 rules."""

    def compare(self, rule, row):
        states, made, scorer = scoring.run(rule, row)
        self.assertEqual(states_along(rule, row), states)
        self.assertEqual(state_after(rule, row), states[-1])
        self.assertEqual(points_made(rule, row), made[-1])
        self.assertEqual(winner_of(rule, row), scorer.winner())
        if scorer.end is None:
            self.assertRaises(NotFound, end_of, rule, row)
        else:
            self.assertEqual(end_of(rule, row), scorer.end)
        return states, scorer

    def test_all_rows_up_to_six_rallies(self):
        rows = scoring.rows_up_to(6)
        for rule in all_rules():
            for row in rows:
                self.compare(rule, row)

    def test_long_rows_and_what_they_begin_with(self):
        ended = {}
        for rule in all_rules():
            for row in scoring.long_rows():
                for length in (2, 9, 14, 21, 30, 45, 60):
                    _, scorer = self.compare(rule, row[:length])
                    ended.setdefault((rule[1], rule[2], rule[3], rule[4]), set()).add(scorer.winner())
        for winners in ended.values():
            self.assertEqual(winners, {None, 0, 1})

    def test_the_boards_of_long_rows(self):
        for rule in all_rules():
            for row in scoring.long_rows():
                states = scoring.run(rule, row)[0][1:]
                self.assertEqual(boards_of(rule, row, 0), [state[:5] for state in states])
                self.assertEqual(boards_of(rule, row, 1), [state[0] for state in states])
                self.assertEqual(boards_of(rule, row, 2), [(state[3], state[4]) for state in states])


class ExchangedSidesTest(unittest.TestCase):
    def compare(self, rule, row, other_row):
        """Check that two rows give the same, but for the sides exchanged."""
        _, zero, one, games_zero, games_one, turn = state_after(rule, row)
        self.assertEqual(state_after(rule, other_row)[1:], (one, zero, games_one, games_zero, turn))
        self.assertEqual(points_made(rule, other_row), points_made(rule, row)[::-1])
        winner = winner_of(rule, row)
        self.assertEqual(winner_of(rule, other_row), None if winner is None else 1 - winner)

    def rows(self):
        return scoring.rows_up_to(5) + [row[:59] for row in scoring.long_rows()]

    def test_where_the_serve_does_not_decide(self):
        for rule in all_rules():
            if rule[4] != "only":
                for row in self.rows():
                    self.compare(rule, row, scoring.exchanged(row))

    def test_with_serve_only_behind_a_first_rally(self):
        for rule in all_rules():
            if rule[4] == "only":
                for row in self.rows():
                    later = [1] + row
                    other = scoring.exchanged(row)
                    self.compare(rule, later, other)
                    serving = [1 - state[0] for state in states_along(rule, other)]
                    self.assertEqual([state[0] for state in states_along(rule, later)[1:]], serving)


class KindsOfValuesTest(unittest.TestCase):
    def assert_integers(self, items, many):
        self.assertIs(type(items), tuple)
        self.assertEqual([type(item) for item in items], [int] * many)

    def test_states_boards_points_winners_and_ends(self):
        for rule in all_rules():
            for row in ([0, 1, 1, 0, 1, 0, 1], [1] * 15, [0] * 15):
                self.assertIs(type(states_along(rule, row)), list)
                for state in states_along(rule, row):
                    self.assert_integers(state, 6)
                self.assert_integers(state_after(rule, row), 6)
                self.assert_integers(points_made(rule, row), 2)
                for sight, many in ((0, 5), (2, 2)):
                    for board in boards_of(rule, row, sight):
                        self.assert_integers(board, many)
                self.assertEqual({type(board) for board in boards_of(rule, row, 1)}, {int})
            self.assertIs(type(winner_of(rule, [1] * 15)), int)
            self.assertIs(type(winner_of(rule, [0] * 15)), int)
            self.assertIs(type(end_of(rule, [0] * 15)), int)

    def test_a_winner_0_is_not_none(self):
        self.assertEqual(winner_of(P, [0, 0]), 0)
        self.assertIsNotNone(winner_of(P, [0, 0]))
        self.assertIsNone(winner_of(P, [0, 1]))


class WrongArgumentsTest(unittest.TestCase):
    def assert_raises_just(self, kind, function, *arguments):
        with self.assertRaises(kind) as caught:
            function(*arguments)
        self.assertIs(type(caught.exception), kind)

    def test_wrong_rules(self):
        for rule in wrong.wrong_rules():
            with self.subTest(rule=repr(rule)):
                for function in WITHOUT_SIGHT:
                    self.assert_raises_just(BadRule, function, rule, [0, 0])
                self.assert_raises_just(BadRule, boards_of, rule, [0, 0], 0)

    def test_wrong_rows(self):
        for row in wrong.wrong_rows():
            with self.subTest(row=repr(row)):
                for function in WITHOUT_SIGHT:
                    self.assert_raises_just(BadRally, function, P, row)
                self.assert_raises_just(BadRally, boards_of, P, row, 0)

    def test_wrong_sights(self):
        for sight in wrong.wrong_sights():
            with self.subTest(sight=repr(sight)):
                self.assert_raises_just(BadNumber, boards_of, P, [0, 1], sight)
                self.assert_raises_just(BadNumber, boards_of, P, [], sight)

    def test_the_first_wrong_argument_decides(self):
        for rule in (None, [], (2, "two", 1, "same"), (True, "two", 1, "same", "games")):
            for row in (None, (0, 1), [2], [True], [0] * 61):
                for function in WITHOUT_SIGHT:
                    self.assert_raises_just(BadRule, function, rule, row)
                for sight in (None, 3, -1, True):
                    self.assert_raises_just(BadRule, boards_of, rule, row, sight)
                    self.assert_raises_just(BadRule, boards_of, rule, [0], sight)
                    self.assert_raises_just(BadRally, boards_of, P, row, sight)
                self.assert_raises_just(BadRule, boards_of, rule, row, 0)

    def test_a_wrong_rally_behind_the_end_of_the_match(self):
        for function in WITHOUT_SIGHT:
            self.assert_raises_just(BadRally, function, P, [0, 0, 0, 2])
        self.assert_raises_just(BadRally, boards_of, P, [0, 0, 0, None], 2)

    def test_a_match_that_has_not_ended(self):
        self.assert_raises_just(NotFound, end_of, P, [])
        self.assert_raises_just(NotFound, end_of, P, [0, 1] * 30)
        self.assert_raises_just(NotFound, end_of, (2, "one", 3, "same", "games"), [0] * 5)
        self.assertEqual(end_of((2, "one", 3, "same", "games"), [0] * 6), 6)

    def test_rows_of_60_and_of_61_rallies(self):
        for function in WITHOUT_SIGHT:
            function(P, [0] * 60)
            self.assert_raises_just(BadRally, function, P, [0] * 61)
        self.assertEqual(len(boards_of(P, [0] * 60, 1)), 60)
        self.assert_raises_just(BadRally, boards_of, P, [0] * 61, 1)


class ArgumentsAndListsTest(unittest.TestCase):
    def test_no_argument_is_changed(self):
        for rule in (P, Q, (3, "two", 2, "longer", "twos"), (2, "one", 3, "same", "only")):
            for row in ([], [0, 1, 1, 0, 0, 1], [1] * 15):
                before = list(row)
                for function in WITHOUT_SIGHT:
                    try:
                        function(rule, row)
                    except NotFound:
                        pass
                    self.assertEqual(row, before)
                for sight in (0, 1, 2):
                    boards_of(rule, row, sight)
                    self.assertEqual(row, before)

    def test_a_wrong_row_is_not_changed(self):
        row = [0, 1, 2, None]
        for function in WITHOUT_SIGHT:
            self.assertRaises(BadRally, function, P, row)
        self.assertRaises(BadRally, boards_of, P, row, 0)
        self.assertEqual(row, [0, 1, 2, None])

    def test_returned_lists_are_new(self):
        for row in ([], [0], [0, 1, 1]):
            for sight in (0, 1, 2):
                first = boards_of(P, row, sight)
                expected = list(first)
                first.append(None)
                self.assertIsNot(first, row)
                self.assertEqual(boards_of(P, row, sight), expected)
            first = states_along(P, row)
            expected = list(first)
            first.clear()
            self.assertEqual(states_along(P, row), expected)

    def test_boards_that_equal_the_row_are_another_list(self):
        row = [0, 1, 1]
        boards = boards_of(Q, row, 1)
        self.assertEqual(boards, row)
        boards.append(0)
        self.assertEqual(row, [0, 1, 1])


if __name__ == "__main__":
    unittest.main()
