import unittest

from matchboards.errors import BadRule, NotFound
from matchboards.rules import all_rules
from matchboards.seeing import can_show
from matchboards.spoken import is_within, spoken_classes, telling_boards
from matchboards.telling import same
from tests import arguments, scoring, searching, speaking
from tests.pairs import some_pairs

P = (2, "two", 1, "same", "games")
Q = (2, "cap", 1, "same", "winner")
ONE = (2, "one", 1, "same", "games")
SIGHTS = (0, 1, 2)


def board_rows(rule, sight, length):
    """Return the board rows of a length that can be seen of a rule, of all its rows."""
    rows = scoring.rows_up_to(length)[2 ** length - 1:]
    return {tuple(searching.seen_row(rule, row, sight)) for row in rows}


class SpokenTest(unittest.TestCase):
    def check(self, one, other, sight, told):
        """Check telling_boards in both orders; told is None if the same board rows can be seen."""
        for left, right, turned in ((one, other, False), (other, one, True)):
            if told is None:
                self.assertTrue(is_within(left, right, sight))
                self.assertRaises(NotFound, telling_boards, left, right, sight)
            else:
                boards, owner = told
                expected = (boards, 1 - owner if turned else owner)
                self.assertEqual(telling_boards(left, right, sight), expected)
                self.assertIs(type(telling_boards(left, right, sight)), tuple)


class WorkedByHandTest(SpokenTest):
    def test_serving_sides(self):
        # With "games" the first game is served by side 0, with "winner" by the side that won.
        self.check(P, Q, 1, ([1], 1))
        self.check(P, Q, 0, ([(0, 0, 1, 0, 0)], 0))
        self.check(P, Q, 2, ([(0, 0)] * 5, 0))

    def test_one_within_the_other(self):
        # With "twos" side 1 serves behind the second rally, whether or not the game goes on; with "games" just if not.
        twos = ONE[:4] + ("twos",)
        self.assertIs(is_within(twos, ONE, 1), True)
        self.assertIs(is_within(ONE, twos, 1), False)
        self.check(twos, ONE, 1, ([0, 0], 1))
        # One more game can be as long as one likes, no point being made in it; but it can be won as well.
        only = ONE[:4] + ("only",)
        further = (2, "one", 2, "same", "only")
        self.assertIs(is_within(only, further, 2), True)
        self.assertIs(is_within(further, only, 2), False)
        self.check(only, further, 2, ([(0, 0), (1, 0), (1, 0), (2, 0)], 1))

    def test_neither_within_the_other(self):
        # A game of "one" ends by the third rally; one of "two" ends behind an even number of them, but may go on.
        for sight in SIGHTS:
            self.assertIs(is_within(ONE, P, sight), False)
            self.assertIs(is_within(P, ONE, sight), False)
        self.check(ONE, P, 1, ([0, 0, 0], 1))
        self.check(ONE, P, 2, ([(0, 0), (0, 0), (0, 0)], 1))

    def test_alike_rules_show_the_same(self):
        for rule in all_rules()[::5]:
            for sight in SIGHTS:
                self.check(rule, rule, sight, None)

    def test_unlike_rules_of_which_the_same_can_be_seen(self):
        # Games of "only" can take any number of rallies from the least one on, behind which they stay as they are.
        self.check((2, "one", 1, "longer", "only"), (2, "two", 1, "longer", "only"), 2, None)
        self.assertIs(same((2, "one", 1, "longer", "only"), (2, "two", 1, "longer", "only"), 2), False)
        self.check((2, "two", 1, "same", "twos"), (3, "two", 1, "same", "twos"), 1, None)
        self.assertIs(same((2, "two", 1, "same", "twos"), (3, "two", 1, "same", "twos"), 1), False)


class SearchesTest(SpokenTest):
    def test_all_board_rows_of_short_lengths(self):
        for sight in SIGHTS:
            told = {0: 0, 1: 0, None: 0}
            for one, other in some_pairs(11, 17)[::31]:
                first = None
                for length in range(1, 8):
                    shown, its = board_rows(one, sight, length), board_rows(other, sight, length)
                    if shown != its:
                        boards = min(shown ^ its)
                        first = (list(boards), 0 if boards in shown else 1)
                        break
                told[first and first[1]] += 1
                if first is not None:
                    self.check(one, other, sight, first)
                    self.assertIs(is_within(*((one, other) if first[1] == 0 else (other, one)), sight), False)
                elif not (is_within(one, other, sight) and is_within(other, one, sight)):
                    self.assertGreater(len(telling_boards(one, other, sight)[0]), 7)
            self.assertGreater(min(told.values()), 0)

    def test_against_another_search(self):
        for sight in SIGHTS:
            within = {}
            lengths = {}
            for one, other in some_pairs(11, 17)[::5]:
                only = speaking.least_only_of(one, other, sight)
                its = speaking.least_only_of(other, one, sight)
                self.assertIs(is_within(one, other, sight), only is None)
                self.assertIs(is_within(other, one, sight), its is None)
                told = speaking.least_telling(one, other, sight)
                self.check(one, other, sight, told)
                which = tuple(sorted((only is None, its is None)))
                within[which] = within.get(which, 0) + 1
                lengths[None if told is None else len(told[0])] = True
            # In the sight 0 none is within another one that shows more.
            self.assertGreater(within[(True, True)], 1)
            self.assertGreater(within[(False, False)], 3)
            self.assertEqual((False, True) in within, sight != 0)
            self.assertGreater(len(lengths), 7)

    def test_the_board_row_can_be_seen_of_the_rule_told_of(self):
        for one, other in some_pairs(11, 17)[::2]:
            for sight in SIGHTS:
                if not is_within(one, other, sight) or not is_within(other, one, sight):
                    boards, owner = telling_boards(one, other, sight)
                    self.assertIs(can_show(one, sight, boards), owner == 0)
                    self.assertIs(can_show(other, sight, boards), owner == 1)
                    self.assertEqual(can_show(one, sight, boards[:-1]), can_show(other, sight, boards[:-1]))

    def test_alike_rules_are_within_each_other(self):
        for one, other in some_pairs(11, 17):
            for sight in SIGHTS:
                if same(one, other, sight):
                    self.assertIs(is_within(one, other, sight), True)


class ClassesTest(unittest.TestCase):
    def check(self, family, sight):
        groups = spoken_classes(family, sight)
        self.assertEqual(sorted(place for group in groups for place in group), list(range(len(family))))
        self.assertEqual(groups, sorted(sorted(group) for group in groups))
        mark = {place: number for number, group in enumerate(groups) for place in group}
        for place, rule in enumerate(family):
            for other_place, other in enumerate(family):
                both = is_within(rule, other, sight) and is_within(other, rule, sight)
                self.assertIs(mark[place] == mark[other_place], both)
        return groups

    def test_worked_by_hand(self):
        self.assertEqual(spoken_classes([P, Q, P], 0), [[0, 2], [1]])
        self.assertEqual(spoken_classes([Q, P, P, Q], 1), [[0, 3], [1, 2]])
        self.assertEqual(spoken_classes([P, P[:4] + ("twos",), Q, P[:4] + ("winner",)], 2), [[0, 1, 3], [2]])
        self.assertEqual(spoken_classes([ONE, ONE[:4] + ("only",), ONE], 2), [[0, 2], [1]])

    def test_families_of_all_sizes(self):
        rules = all_rules()
        sizes = {}
        for k in range(24):
            # Equal rules, and rules that are alike in a sight only, stand among them.
            family = [rules[(k * 41 + (0, 1, 2, 0, 24, 1, 4, 100)[(at + k) % 8]) % 216] for at in range(k % 8 + 1)]
            for sight in SIGHTS:
                sizes[(len(family), len(self.check(family, sight)))] = True
        self.assertGreater(len(sizes), 10)

    def test_one_rule_and_eight_equal_rules(self):
        for sight in SIGHTS:
            self.assertEqual(spoken_classes([Q], sight), [[0]])
            self.assertEqual(spoken_classes([Q] * 8, sight), [list(range(8))])


class ArgumentsTest(unittest.TestCase):
    def test_wrong_arguments(self):
        for sight in SIGHTS:
            for function in (is_within, telling_boards):
                # The rules are equal, so that the errors stand ahead of NotFound.
                arguments.check_wrong_arguments(self, function, ("rule", "rule", "sight"), (P, P, sight), sight)
            arguments.check_wrong_arguments(self, spoken_classes, ("family", "sight"), ([P, Q], sight), sight)

    def test_limits_of_families(self):
        self.assertEqual(spoken_classes([P] * 7 + [Q], 0), [list(range(7)), [7]])
        arguments.assert_raises_just(self, BadRule, spoken_classes, ([P] * 7 + [Q] * 2, 0))
        arguments.assert_raises_just(self, BadRule, spoken_classes, ([], 0))

    def test_rules_of_which_the_same_can_be_seen_raise_not_found(self):
        for sight in SIGHTS:
            arguments.assert_raises_just(self, NotFound, telling_boards, (P, P, sight))

    def test_calls_change_nothing_and_lists_are_new(self):
        for sight in SIGHTS:
            for one, other in ((P, Q), (P, P), (Q, (3, "one", 2, "longer", "twos"))):
                arguments.check_call(self, is_within, (one, other, sight))
                arguments.check_call(self, telling_boards, (one, other, sight))
                arguments.check_call(self, spoken_classes, ([one, other, one], sight))


if __name__ == "__main__":
    unittest.main()
