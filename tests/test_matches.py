import unittest

from matchboards.errors import BadNumber, BadRally
from matchboards.matches import count_ends, fewest_points, longest_match, lost_lead, shortest_match, soonest
from matchboards.rules import all_rules
from matchboards.running import end_of
from tests import arguments, playing, scoring, searching

P = (2, "two", 1, "same", "games")
Q = (2, "cap", 1, "same", "winner")
ONE = (2, "one", 1, "same", "games")
SIDES = (0, 1)
FUNCTIONS_OF_RULES = (shortest_match, longest_match, fewest_points, lost_lead)


class LengthsTest(unittest.TestCase):
    def test_worked_by_hand(self):
        self.assertEqual(shortest_match(P), [0, 0])
        self.assertEqual(shortest_match((2, "one", 1, "longer", "games")), [0, 0, 0])
        # Each game of two wants 2 points; the last one can be a longer one.
        self.assertEqual(shortest_match((2, "one", 2, "same", "only")), [0, 0, 0, 0])
        self.assertEqual(shortest_match((2, "one", 2, "longer", "games")), [0, 0, 0, 0, 0])
        self.assertEqual(longest_match(ONE), 3)
        self.assertEqual(longest_match((2, "one", 2, "same", "games")), 9)
        self.assertEqual(longest_match((2, "one", 2, "longer", "winner")), 13)

    def test_the_example_of_the_document(self):
        self.assertEqual(longest_match(Q), 5)

    def test_matches_without_end(self):
        self.assertIs(longest_match(P), None)
        # No point need be made.
        self.assertIs(longest_match((2, "one", 1, "same", "only")), None)
        for rule in all_rules():
            self.assertIs(longest_match(rule) is None, rule[1] == "two" or rule[4] == "only")

    def test_shortest_against_another_search(self):
        for rule in all_rules():
            winners = searching.shows(rule, "winner")
            rows = [(len(row), row) for state, row in searching.least_rows(rule).items() if winners[state] is not None]
            row = shortest_match(rule)
            self.assertEqual(row, min(rows)[1])
            self.assertEqual(scoring.run(rule, row)[2].end, len(row))

    def test_no_earlier_row_ends_the_match(self):
        rows = scoring.rows_up_to(6)
        for rule in all_rules()[::3]:
            first = next((row for row in rows if scoring.run(rule, row)[2].end is not None), None)
            if first is None:
                self.assertGreater(len(shortest_match(rule)), 6)
            else:
                self.assertEqual(shortest_match(rule), first)

    def test_longest_against_another_search(self):
        told = {}
        for rule in all_rules():
            many = playing.longest(rule)
            self.assertEqual(longest_match(rule), many)
            told[many] = True
        self.assertGreater(len(told), 14)

    def test_some_row_is_as_long_as_the_longest_match(self):
        for rule in all_rules():
            many = longest_match(rule)
            if many is not None:
                self.assertGreater(count_ends(rule, many), 0)
                self.assertEqual([count_ends(rule, length) for length in range(many + 1, 61)], [0] * (60 - many))


class CountEndsTest(unittest.TestCase):
    def test_worked_by_hand(self):
        self.assertEqual([count_ends(ONE, length) for length in range(6)], [0, 0, 2, 4, 0, 0])
        self.assertEqual([count_ends(P, length) for length in range(9)], [0, 0, 2, 0, 4, 0, 8, 0, 16])
        self.assertEqual(count_ends(P, 60), 2 ** 30)
        self.assertEqual(count_ends(P, 59), 0)
        self.assertEqual([count_ends(Q, length) for length in range(7)], [0, 0, 2, 0, 4, 8, 0])

    def test_all_rows_of_short_lengths(self):
        rows = scoring.rows_up_to(8)
        for rule in all_rules()[::4] + [P, Q]:
            many = [0] * 9
            for row in rows:
                if scoring.run(rule, row)[2].end == len(row):
                    many[len(row)] += 1
            self.assertEqual([count_ends(rule, length) for length in range(9)], many)

    def test_all_lengths_against_another_count(self):
        for k, rule in enumerate(all_rules()):
            for length in (k % 61, (k * 7 + 13) % 61, 60):
                self.assertEqual(count_ends(rule, length), playing.ends(rule, length))
        for length in range(61):
            for rule in (P, Q, (4, "cap", 3, "longer", "only"), (4, "two", 3, "same", "twos")):
                self.assertEqual(count_ends(rule, length), playing.ends(rule, length))

    def test_rows_of_matches_that_end_are_all_rows(self):
        for rule in all_rules():
            if longest_match(rule) is not None:
                self.assertEqual(sum(count_ends(rule, length) * 2 ** (60 - length) for length in range(61)), 2 ** 60)


class PointsTest(unittest.TestCase):
    def test_worked_by_hand(self):
        self.assertEqual(fewest_points(ONE), -1)
        self.assertEqual(fewest_points(P), -2)
        self.assertEqual(fewest_points(Q), -1)
        # 2-1, 0-2 and 2-1 again.
        self.assertEqual(fewest_points((2, "one", 2, "same", "games")), 0)
        self.assertEqual(fewest_points((4, "one", 2, "same", "games")), 2)
        self.assertEqual(lost_lead(ONE), 1)
        self.assertEqual(lost_lead((3, "one", 1, "same", "winner")), 2)
        # 2-0 and then 1-0.
        self.assertEqual(lost_lead((2, "one", 2, "same", "games")), 3)

    def test_against_another_search(self):
        fewer, lost = {}, {}
        for rule in all_rules():
            come = playing.leads(rule)
            gaps = [lead if winner == 1 else -lead for _, lead, winner in come if winner is not None]
            self.assertEqual(fewest_points(rule), max(gaps))
            # A lead is lost if the other side can win then, or has won; or nobody does.
            behind = []
            for state, lead, winner in come:
                for side, ahead in ((0, lead), (1, -lead)):
                    if winner == 1 - side or winner is None and state in playing.rallies_to_win(rule, 1 - side):
                        behind.append(ahead)
            self.assertEqual(lost_lead(rule), max(behind))
            fewer[max(gaps)], lost[max(behind)] = True, True
        self.assertLess(min(fewer), 0)
        self.assertGreater(max(fewer), 5)
        self.assertGreater(len(lost), 8)

    def test_all_rows_of_some_rules(self):
        # All matches of these rules end within ten rallies.
        rules = [rule for rule in all_rules() if longest_match(rule) is not None and longest_match(rule) < 10]
        self.assertGreater(len(rules), 20)
        rows = scoring.rows_up_to(9)[2 ** 9 - 1:]
        for rule in rules[::2]:
            gaps, lost = [], []
            for row in rows:
                _, made, scorer = scoring.run(rule, row)
                winner = scorer.winner()
                gaps.append(made[-1][1 - winner] - made[-1][winner])
                lost += [both[1 - winner] - both[winner] for both in made]
            self.assertEqual(fewest_points(rule), max(gaps))
            self.assertEqual(lost_lead(rule), max(lost))

    def test_winners_of_one_game_have_always_made_more(self):
        for rule in all_rules():
            if rule[2] == 1:
                self.assertEqual(fewest_points(rule), -2 if rule[1] == "two" else -1)


class SoonestTest(unittest.TestCase):
    def check(self, rule, row):
        state = scoring.run(rule, row)[0][-1]
        for side in SIDES:
            self.assertEqual(soonest(rule, row, side), playing.rallies_to_win(rule, side).get(state))

    def test_worked_by_hand(self):
        self.assertEqual([soonest(P, [], side) for side in SIDES], [2, 2])
        self.assertEqual([soonest(P, [0], side) for side in SIDES], [1, 3])
        self.assertEqual([soonest(P, [0, 1, 1], side) for side in SIDES], [3, 1])
        only = ONE[:4] + ("only",)
        # Side 1 has to win the serve first.
        self.assertEqual([soonest(only, [], side) for side in SIDES], [2, 3])
        self.assertEqual([soonest(only, [1], side) for side in SIDES], [3, 2])

    def test_matches_that_have_ended(self):
        for rule in all_rules():
            row = shortest_match(rule)
            for further in ([], [1], [1] * (60 - len(row))):
                self.assertEqual(soonest(rule, row + further, 0), 0)
                self.assertIs(soonest(rule, row + further, 1), None)
            won = [1] * 60
            self.assertEqual(soonest(rule, won, 1), 0)
            self.assertIs(soonest(rule, won, 0), None)
            self.assertEqual(end_of(rule, won), soonest(rule, [], 1))

    def test_all_rules(self):
        rows = scoring.rows_up_to(3) + scoring.mixed_rows(3, 9, 3) + scoring.long_rows()
        for rule in all_rules():
            for row in rows:
                self.check(rule, row)

    def test_some_row_as_long_wins_and_no_shorter_one(self):
        for rule in all_rules()[::7]:
            for row in ([], [1], [0, 1, 1], [0, 0, 0, 1]):
                many = {side: soonest(rule, row, side) for side in SIDES}
                for further in scoring.rows_up_to(6):
                    winner = scoring.run(rule, row + further)[2].winner()
                    if winner is not None:
                        self.assertLessEqual(many[winner], len(further))


class ArgumentsTest(unittest.TestCase):
    def test_wrong_arguments(self):
        for function in FUNCTIONS_OF_RULES:
            arguments.check_wrong_arguments(self, function, ("rule",), (P,), 0)
        arguments.check_wrong_arguments(self, count_ends, ("rule", "length"), (P, 5), 0)
        arguments.check_wrong_arguments(self, soonest, ("rule", "row", "side"), (P, [0, 1], 0), 0)

    def test_limits(self):
        for length in (-1, 61, True, False, None):
            arguments.assert_raises_just(self, BadNumber, count_ends, (P, length))
        for side in (-1, 2, True, False, None):
            arguments.assert_raises_just(self, BadNumber, soonest, (P, [], side))
        self.assertEqual(soonest(P, [0, 1] * 30, 0), 2)
        arguments.assert_raises_just(self, BadRally, soonest, (P, [0, 1] * 30 + [0], 0))

    def test_calls_change_nothing_and_lists_are_new(self):
        for rule in (P, Q, (3, "cap", 2, "longer", "only")):
            for function in FUNCTIONS_OF_RULES:
                arguments.check_call(self, function, (rule,))
            arguments.check_call(self, count_ends, (rule, 9))
            arguments.check_call(self, soonest, (rule, [0, 1, 1], 1))


if __name__ == "__main__":
    unittest.main()
