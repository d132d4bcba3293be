import unittest

from matchboards.errors import BadBoards, BadRule
from matchboards.reading import bars, first_bar, made, remains
from matchboards.rules import all_rules
from tests import arguments, scoring, searching, wrong

P = (2, "two", 1, "same", "games")
Q = (2, "cap", 1, "same", "winner")
SIGHTS = (0, 1, 2)
FUNCTIONS_OF_ONE = (first_bar, made)
FUNCTIONS_OF_FAMILIES = (remains, bars)


def some_rows():
    return [[], [0], [1, 1], [0, 1, 1, 0, 1]] + scoring.mixed_rows(4, 17, 7) + scoring.long_rows()[:4]


def expected_bar(rule, sight, record):
    row, boards = record
    shown = searching.seen_row(rule, row, sight)
    unlike = [at for at in range(len(row)) if shown[at] != boards[at]]
    return unlike[0] if unlike else None


def expected_bars(family, sight, records):
    found = []
    for rule in family:
        told = [(place, expected_bar(rule, sight, record)) for place, record in enumerate(records)]
        found.append(next(((place, bar) for place, bar in told if bar is not None), None))
    return found


class OneRecordTest(unittest.TestCase):
    def check(self, rule, sight, row, boards, bar):
        self.assertEqual(first_bar(rule, sight, (row, boards)), bar)
        self.assertIs(made(rule, sight, (row, boards)), bar is None)

    def test_worked_by_hand(self):
        self.check(P, 0, [0, 1, 1], [(0, 1, 0, 0, 0), (0, 1, 1, 0, 0), (0, 1, 2, 0, 0)], None)
        self.check(P, 0, [0, 1, 1], [(0, 1, 0, 0, 0), (1, 1, 1, 0, 0), (1, 1, 2, 0, 0)], 1)
        self.check(Q, 0, [0, 1, 1], [(0, 1, 0, 0, 0), (0, 1, 1, 0, 0), (0, 1, 2, 0, 0)], 1)
        self.check(P, 1, [0, 0, 1], [0, 1, 1], None)
        self.check(Q, 1, [0, 0, 1], [0, 1, 1], 1)
        self.check(P, 2, [0, 0], [(0, 0), (0, 1)], 1)
        self.check(P, 2, [0, 0], [(1, 0), (1, 0)], 0)

    def test_the_bar_of_the_first_rally_is_0_and_not_none(self):
        self.check(P, 1, [0], [1], 0)
        self.assertIs(type(first_bar(P, 1, ([0], [1]))), int)

    def test_the_empty_record(self):
        for rule in all_rules():
            for sight in SIGHTS:
                self.check(rule, sight, [], [], None)

    def test_boards_of_each_rule(self):
        for rule in all_rules():
            for row in some_rows():
                for sight in SIGHTS:
                    self.check(rule, sight, row, searching.seen_row(rule, row, sight), None)

    def test_one_board_changed(self):
        for rule in all_rules()[::5] + [P, Q]:
            for row in some_rows()[1:]:
                for sight in SIGHTS:
                    boards = searching.seen_row(rule, row, sight)
                    for at in sorted({0, 1, len(row) // 2, len(row) - 2, len(row) - 1}):
                        if 0 <= at < len(row):
                            self.check(rule, sight, row, searching.changed(boards, at, sight), at)

    def test_of_two_changed_boards_the_first_one_is_the_bar(self):
        row = [0, 1, 1, 0, 0, 0, 1, 0]
        for sight in SIGHTS:
            boards = searching.seen_row(P, row, sight)
            boards = searching.changed(searching.changed(boards, 6, sight), 3, sight)
            self.check(P, sight, row, boards, 3)

    def test_boards_of_other_rules(self):
        rules = all_rules()
        for k, rule in enumerate(rules):
            other = rules[(k * 5 + 11) % 216]
            for row in some_rows():
                for sight in SIGHTS:
                    record = (row, searching.seen_row(other, row, sight))
                    self.check(rule, sight, row, record[1], expected_bar(rule, sight, record))


class FamiliesTest(unittest.TestCase):
    def check(self, family, sight, records):
        expected = expected_bars(family, sight, records)
        self.assertEqual(bars(family, sight, records), expected)
        places = [place for place, bar in enumerate(expected) if bar is None]
        self.assertEqual(remains(family, sight, records), places)
        return expected

    def test_worked_by_hand(self):
        records = [([0], [0]), ([0, 1], [0, 0]), ([0, 0, 1], [0, 1, 1])]
        self.assertEqual(bars([P, Q], 1, records), [None, (1, 1)])
        self.assertEqual(remains([P, Q], 1, records), [0])
        self.assertEqual(bars([Q, P, Q], 1, records[::-1]), [(0, 1), None, (0, 1)])
        self.assertEqual(remains([Q, P, Q], 1, records[::-1]), [1])
        self.assertEqual(remains([P, Q], 1, [([0], [1])]), [])
        self.assertEqual(remains([P, Q, P], 1, [([], [])]), [0, 1, 2])

    def test_families_and_lists_of_all_sizes(self):
        rules = all_rules()
        rows = some_rows()
        barred = 0
        for size in range(1, 9):
            for many in (1, 2, 5, 11, 12):
                for k in range(6):
                    family = [rules[(k * 31 + at * 29) % 216] for at in range(size)]
                    maker = family[k % size]
                    for sight in SIGHTS:
                        records = [(row, searching.seen_row(maker, row, sight)) for row in (rows * 2)[k:k + many]]
                        expected = self.check(family, sight, records)
                        self.assertIn(k % size, remains(family, sight, records))
                        barred += len([bar for bar in expected if bar is not None and bar[0] > 0])
        self.assertGreater(barred, 100)

    def test_the_first_record_that_was_not_made(self):
        row = [0, 1, 0, 1, 1, 0, 0, 0, 1]
        for sight in SIGHTS:
            good = (row, searching.seen_row(P, row, sight))
            for place in range(12):
                for at in (0, 4, 8):
                    bad = (row, searching.changed(good[1], at, sight))
                    records = [good] * place + [bad] + [good] * (11 - place)
                    self.assertEqual(bars([P], sight, records), [(place, at)])
                    self.assertEqual(remains([P], sight, records), [])
                    if place < 11:
                        earlier = (row, searching.changed(good[1], 2, sight))
                        self.assertEqual(bars([P], sight, records[:11] + [earlier]), [(place, at)])

    def test_equal_rules_stand_for_themselves(self):
        for sight in SIGHTS:
            record = ([0, 1, 1, 0, 0], searching.seen_row(P, [0, 1, 1, 0, 0], sight))
            self.assertEqual(remains([P] * 8, sight, [record] * 12), list(range(8)))
            self.assertEqual(bars([P] * 8, sight, [record] * 12), [None] * 8)

    def test_kinds_of_values(self):
        told = bars([P, Q], 1, [([0, 1], [0, 0])])
        self.assertEqual([type(told), type(told[1]), type(told[1][0])], [list, tuple, int])
        self.assertIs(type(remains([P], 1, [([], [])])), list)


class ArgumentsTest(unittest.TestCase):
    def test_wrong_arguments(self):
        for sight in SIGHTS:
            record = ([0], [wrong.GOOD_BOARDS[sight]])
            for function in FUNCTIONS_OF_ONE:
                arguments.check_wrong_arguments(
                    self, function, ("rule", "sight", "record"), (P, sight, record), sight)
            for function in FUNCTIONS_OF_FAMILIES:
                arguments.check_wrong_arguments(
                    self, function, ("family", "sight", "records"), ([P, Q], sight, [record]), sight)

    def test_limits_of_lists(self):
        for sight in SIGHTS:
            record = ([0] * 60, [wrong.GOOD_BOARDS[sight]] * 60)
            for function in FUNCTIONS_OF_FAMILIES:
                function([P] * 8, sight, [record] * 12)
                arguments.assert_raises_just(self, BadRule, function, ([P] * 9, sight, [record] * 12))
                arguments.assert_raises_just(self, BadRule, function, ([], sight, [record]))
                arguments.assert_raises_just(self, BadBoards, function, ([P] * 8, sight, [record] * 13))
                arguments.assert_raises_just(self, BadBoards, function, ([P] * 8, sight, []))

    def test_boards_of_another_sight(self):
        for function in FUNCTIONS_OF_ONE:
            for sight in SIGHTS:
                for other in SIGHTS:
                    record = ([0], [wrong.GOOD_BOARDS[other]])
                    if other != sight:
                        arguments.assert_raises_just(self, BadBoards, function, (P, sight, record))

    def test_a_wrong_record_behind_one_that_was_not_made(self):
        for function in FUNCTIONS_OF_FAMILIES:
            records = [([0], [1]), ([0], [2])]
            arguments.assert_raises_just(self, BadBoards, function, ([P], 1, records))

    def test_greatest_and_least_boards(self):
        for sight, low, high in ((0, (0,) * 5, (1, 5, 5, 3, 3)), (1, 0, 1), (2, (0, 0), (3, 3))):
            self.assertEqual(first_bar(P, sight, ([1, 1, 0], [high] * 3)), 0)
            self.assertIn(first_bar(P, sight, ([1, 1, 0], [low] * 3)), (0, 1))

    def test_calls_change_nothing_and_lists_are_new(self):
        for sight in SIGHTS:
            for row in ([], [0, 1, 1, 0], [1] * 9):
                record = (row, searching.seen_row(Q, row, sight))
                for function in FUNCTIONS_OF_ONE:
                    arguments.check_call(self, function, (P, sight, record))
                for function in FUNCTIONS_OF_FAMILIES:
                    arguments.check_call(self, function, ([P, Q, P], sight, [record, (list(row), list(record[1]))]))


if __name__ == "__main__":
    unittest.main()
