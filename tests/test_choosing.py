import unittest

from matchboards.choosing import best_rally, count_same
from matchboards.errors import BadBoards, BadNumber, BadRule, NotFound
from matchboards.rules import all_rules
from matchboards.telling import same, telling_row
from tests import arguments, scoring, searching, wrong

P = (2, "two", 1, "same", "games")
Q = (2, "cap", 1, "same", "winner")
ONE = (2, "one", 1, "same", "games")
SIGHTS = (0, 1, 2)


def expected_rally(family, sight, record):
    """Return the best rally by the second scorer, or None, and both sizes of the greatest groups."""
    row, boards = record
    makers = [rule for rule in family if searching.seen_row(rule, row, sight) == boards]
    if not makers:
        return None, None
    sizes = []
    for rally in (0, 1):
        shown = [searching.seen_row(rule, row + [rally], sight)[-1] for rule in makers]
        sizes.append(max(shown.count(board) for board in shown))
    return sizes.index(min(sizes)), tuple(sizes)


def same_rows(one, other, sight, length):
    """Return how many rows of a length show the same boards, counted from the last rally back."""
    moves, its = searching.machine(one), searching.machine(other)
    seen, its_seen = searching.shows(one, sight), searching.shows(other, sight)
    pairs = {(searching.FIRST, searching.FIRST)}
    waiting = list(pairs)
    while waiting:
        state, other_state = waiting.pop()
        for pair in zip(moves[state], its[other_state]):
            if seen[pair[0]] == its_seen[pair[1]] and pair not in pairs:
                pairs.add(pair)
                waiting.append(pair)
    many = {pair: 1 for pair in pairs}
    for _ in range(length):
        many = {
            (state, other_state): sum(many.get(pair, 0) for pair in zip(moves[state], its[other_state]))
            for state, other_state in pairs
        }
    return many[(searching.FIRST, searching.FIRST)]


class BestRallyTest(unittest.TestCase):
    def check(self, family, sight, record):
        rally, sizes = expected_rally(family, sight, record)
        if rally is None:
            self.assertRaises(NotFound, best_rally, family, sight, record)
        else:
            self.assertEqual(best_rally(family, sight, record), rally)
        return rally, sizes

    def test_worked_by_hand(self):
        # Behind [1] the serving side tells "games" and "winner" apart, behind [0] it does not.
        self.assertEqual(best_rally([P, Q], 1, ([], [])), 1)
        self.assertEqual(best_rally([P, Q, P], 0, ([], [])), 1)
        self.assertEqual(best_rally([P, Q], 2, ([], [])), 0)
        # Behind [0, 1] a point of side 0 ends the match of "one" just as one of side 1 does.
        self.assertEqual(best_rally([P, ONE], 2, ([0, 1], [(0, 0), (0, 0)])), 0)
        # Behind [0] it is a point of side 1 that tells 2 points from 3 the least.
        three = (3, "one", 1, "same", "games")
        self.assertEqual(best_rally([ONE, three], 0, ([1], [(0, 0, 1, 0, 0)])), 1)
        self.assertEqual(best_rally([ONE, three], 0, ([0], [(0, 1, 0, 0, 0)])), 0)
        # The second rule did not make the record, so that nothing is left to be told apart.
        self.assertEqual(best_rally([P, Q], 1, ([1], [1])), 0)
        self.assertEqual(best_rally([P, Q], 1, ([1], [0])), 0)

    def test_the_greatest_group_counts_and_not_how_many_there_are(self):
        only = ONE[:4] + ("only",)
        family = [ONE, ONE, only, Q]
        self.assertEqual(expected_rally(family, 0, ([], [])), (1, (4, 2)))
        self.check(family, 0, ([], []))
        # Equal rules count each.
        self.assertEqual(self.check([Q] * 3 + [P], 1, ([], [])), (1, (4, 3)))

    def test_records_that_none_made(self):
        for sight in SIGHTS:
            none = [searching.changed(searching.seen_row(P, [0], sight), 0, sight)]
            arguments.assert_raises_just(self, NotFound, best_rally, ([P, P], sight, ([0], none[0])))
        arguments.assert_raises_just(self, NotFound, best_rally, ([P, Q], 2, ([0], [(3, 3)])))

    def test_families_of_all_sizes(self):
        rules = all_rules()
        told = {}
        rows = [[], [0], [1, 0], [0, 1, 1], [1, 1, 0, 1]] + scoring.mixed_rows(3, 11, 5) + scoring.long_rows()
        for k in range(96):
            family = [rules[(k * 31 + (0, 1, 72, 4, 0, 24, 8, 2)[(at + k) % 8]) % 216] for at in range(k % 8 + 1)]
            for row in rows[k % 3::3]:
                for sight in SIGHTS:
                    boards = searching.seen_row(family[-1], row, sight)
                    told[self.check(family, sight, (row, boards))] = True
                    if row:
                        other = searching.changed(boards, len(row) // 2, sight)
                        told[self.check(family, sight, (row, other))] = True
        self.assertIn((None, None), told)
        self.assertGreater(len([rally for rally, _ in told if rally == 0]), 12)
        self.assertGreater(len([rally for rally, _ in told if rally == 1]), 8)

    def test_all_rules_by_eights(self):
        rules = all_rules()
        for at in range(0, 216, 8):
            for sight in SIGHTS:
                for row in ([], [0], [0, 0], [0, 1], [1, 1], [0, 1, 0]):
                    for rule in rules[at:at + 8:3]:
                        self.check(rules[at:at + 8], sight, (row, searching.seen_row(rule, row, sight)))


class CountSameTest(unittest.TestCase):
    def test_worked_by_hand(self):
        self.assertEqual([count_same(P, Q, 0, length) for length in range(4)], [1, 1, 0, 0])
        self.assertEqual([count_same(P, ONE, 2, length) for length in range(5)], [1, 2, 4, 4, 8])
        self.assertEqual(count_same(P, ONE, 2, 60), 2 ** 59)

    def test_equal_and_alike_rules(self):
        longer, points = (3, "two", 1, "longer", "only"), (4, "two", 1, "same", "only")
        for sight in SIGHTS:
            for length in range(61):
                self.assertEqual(count_same(P, P, sight, length), 2 ** length)
                if length % 7 == 4:
                    self.assertEqual(count_same(longer, points, sight, length), 2 ** length)
        for rule in all_rules()[::9]:
            self.assertEqual(count_same(rule, rule, 0, 60), 2 ** 60)

    def test_all_rows_of_short_lengths(self):
        rules = all_rules()
        told = {}
        for length in range(7):
            rows = scoring.rows_up_to(length)[2 ** length - 1:]
            for k in range(0, 216, 11):
                one, other = rules[k], rules[(k * 7 + 4 + 24 * length) % 216]
                for sight in SIGHTS:
                    many = len([
                        row for row in rows
                        if searching.seen_row(one, row, sight) == searching.seen_row(other, row, sight)
                    ])
                    self.assertEqual(count_same(one, other, sight, length), many)
                    self.assertEqual(count_same(other, one, sight, length), many)
                    told[many] = True
        self.assertGreater(len(told), 20)

    def test_long_rows_against_another_count(self):
        rules = all_rules()
        for k in range(0, 216, 13):
            for length in (8, 33, 60):
                one, other = rules[k], rules[(k + (1, 4, 8, 24, 72)[k % 5]) % 216]
                for sight in SIGHTS:
                    self.assertEqual(count_same(one, other, sight, length), same_rows(one, other, sight, length))

    def test_the_longest_games(self):
        one, other = (4, "cap", 3, "longer", "only"), (4, "two", 3, "longer", "winner")
        for sight in SIGHTS:
            for length in (59, 60):
                self.assertEqual(count_same(one, other, sight, length), same_rows(one, other, sight, length))

    def test_all_rows_are_the_same_up_to_the_telling_row(self):
        rules = all_rules()
        for k in range(0, 216, 5):
            one, other = rules[k], rules[(k * 3 + 4) % 216]
            for sight in SIGHTS:
                if not same(one, other, sight):
                    length = len(telling_row(one, other, sight))
                    self.assertEqual(count_same(one, other, sight, length - 1), 2 ** (length - 1))
                    self.assertLess(count_same(one, other, sight, length), 2 ** length)


class ArgumentsTest(unittest.TestCase):
    def test_wrong_arguments(self):
        for sight in SIGHTS:
            record = ([0], [wrong.GOOD_BOARDS[sight]])
            arguments.check_wrong_arguments(
                self, best_rally, ("family", "sight", "record"), ([P, Q], sight, record), sight)
            arguments.check_wrong_arguments(
                self, count_same, ("rule", "rule", "sight", "length"), (P, Q, sight, 3), sight)

    def test_records_of_another_sight(self):
        for sight in SIGHTS:
            for other in SIGHTS:
                if other != sight:
                    record = ([0], [wrong.GOOD_BOARDS[other]])
                    arguments.assert_raises_just(self, BadBoards, best_rally, ([P, Q], sight, record))

    def test_a_record_of_which_the_row_is_no_row(self):
        for row in wrong.wrong_rows():
            boards = [0] * len(row) if isinstance(row, list) and len(row) <= 60 else [0]
            arguments.assert_raises_just(self, BadBoards, best_rally, ([P, Q], 1, (row, boards)))

    def test_limits(self):
        for sight in SIGHTS:
            self.assertEqual(count_same(P, P, sight, 0), 1)
            for length in (-1, 61, True, False, None, "3", [3], (3,), 10 ** 30):
                arguments.assert_raises_just(self, BadNumber, count_same, (P, Q, sight, length))
            row = [0] * 60
            record = (row, searching.seen_row(P, row, sight))
            self.assertEqual(best_rally([P] * 8, sight, record), 0)
            arguments.assert_raises_just(self, BadRule, best_rally, ([P] * 9, sight, record))
            arguments.assert_raises_just(self, BadRule, best_rally, ([], sight, record))
            longer = (row + [0], record[1] + record[1][-1:])
            arguments.assert_raises_just(self, BadBoards, best_rally, ([P] * 8, sight, longer))

    def test_calls_change_nothing_and_lists_are_new(self):
        for sight in SIGHTS:
            for row in ([], [0, 1, 1, 0], [1] * 9):
                record = (row, searching.seen_row(Q, row, sight))
                arguments.check_call(self, best_rally, ([P, Q, P], sight, record))
                arguments.check_call(self, best_rally, ([P, P], sight, record))
            arguments.check_call(self, count_same, (P, Q, sight, 12))


if __name__ == "__main__":
    unittest.main()
