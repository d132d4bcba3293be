import unittest

from matchboards.errors import BadRule, NotFound
from matchboards.rules import all_rules
from matchboards.running import boards_of, winner_of
from matchboards.telling import classes, same, same_winners, telling_row, telling_table, winners_row
from tests import arguments, scoring, searching
from tests.pairs import some_pairs

P = (2, "two", 1, "same", "games")
Q = (2, "cap", 1, "same", "winner")
SIGHTS = (0, 1, 2)


def same_in(one, other, sight):
    return same_winners(one, other) if sight == "winner" else same(one, other, sight)


def row_in(one, other, sight):
    return winners_row(one, other) if sight == "winner" else telling_row(one, other, sight)


class PairTest(unittest.TestCase):
    def check(self, one, other, sight, row):
        """Check what is told of two rules, in both orders; row is None if they are alike."""
        for left, right in ((one, other), (other, one)):
            self.assertIs(same_in(left, right, sight), row is None)
            if row is None:
                self.assertRaises(NotFound, row_in, left, right, sight)
            else:
                self.assertEqual(row_in(left, right, sight), row)


class WorkedByHandTest(PairTest):
    def test_the_example_of_the_document(self):
        self.assertEqual(telling_row(P, Q, 0), [1])

    def test_points_leads_games_and_serves(self):
        self.check(P, Q, 1, [1])
        self.check(P, Q, 2, [0, 1, 0, 1, 0])
        self.check(P, Q, "winner", [0, 1, 0, 1, 0])
        one = (2, "one", 1, "same", "games")
        self.check(P, one, 0, [0, 1, 0])
        self.check(P, one, 1, [0, 1, 0])
        self.check(P, one, "winner", [0, 1, 0])
        self.check(one, (3, "one", 1, "same", "games"), 0, [0, 0])
        self.check(one, (2, "one", 2, "same", "games"), 0, [0, 0, 0])
        self.check(one, (2, "one", 2, "same", "games"), 1, [0, 0, 0, 0])
        self.check(one, (2, "one", 2, "same", "games"), "winner", [0, 0])
        self.check(one, (2, "one", 1, "same", "twos"), 1, [0, 1])
        self.check(one, (2, "one", 1, "same", "twos"), 2, None)
        self.check(one, (2, "one", 1, "same", "only"), 2, [1, 1])
        self.check((2, "one", 2, "same", "games"), (2, "one", 2, "longer", "games"), 2, [0, 0, 0, 0])

    def test_a_rule_and_itself(self):
        for rule in all_rules()[::5] + [P, Q]:
            for sight in SIGHTS + ("winner",):
                self.check(rule, rule, sight, None)

    def test_a_longer_only_game_is_one_of_more_points(self):
        for rule in all_rules():
            if rule[0] < 4 and rule[2] == 1 and rule[3] == "longer":
                for sight in SIGHTS + ("winner",):
                    self.check(rule, (rule[0] + 1, rule[1], 1, "same", rule[4]), sight, None)

    def test_winners_do_not_tell_who_serves(self):
        for rule in all_rules():
            if rule[4] == "games":
                for serve in ("twos", "winner"):
                    self.check(rule, rule[:4] + (serve,), "winner", None)
                    self.check(rule, rule[:4] + (serve,), 2, None)


class SearchesTest(PairTest):
    def test_all_rows_up_to_six_rallies(self):
        rows = scoring.rows_up_to(6)
        told = {None: 0, True: 0}
        for sight in SIGHTS + ("winner",):
            for one, other in some_pairs()[::9]:
                first = next(
                    (row for row in rows if searching.seen_row(one, row, sight) != searching.seen_row(other, row, sight)),
                    None,
                )
                told[first and True] += 1
                if first is not None:
                    self.check(one, other, sight, first)
                elif not same_in(one, other, sight):
                    self.assertGreater(len(row_in(one, other, sight)), 6)
        self.assertGreater(min(told.values()), 50)

    def test_against_another_search(self):
        lengths = {}
        for sight in SIGHTS + ("winner",):
            for one, other in some_pairs()[::7]:
                length = searching.parting_length(one, other, sight)
                row = None if length is None else searching.first_parting_row(one, other, sight, length)
                self.check(one, other, sight, row)
                lengths[(sight, length)] = True
        self.assertGreater(len(lengths), 30)
        for sight in SIGHTS + ("winner",):
            self.assertIn((sight, None), lengths)

    def test_the_last_rally_parts_them_and_no_earlier_one(self):
        for one, other in some_pairs()[::2]:
            for sight in SIGHTS:
                if not same(one, other, sight):
                    row = telling_row(one, other, sight)
                    seen, its = boards_of(one, row, sight), boards_of(other, row, sight)
                    self.assertEqual(seen[:-1], its[:-1])
                    self.assertNotEqual(seen[-1], its[-1])
            if not same_winners(one, other):
                row = winners_row(one, other)
                self.assertEqual(winner_of(one, row[:-1]), winner_of(other, row[:-1]))
                self.assertNotEqual(winner_of(one, row), winner_of(other, row))

    def test_long_telling_rows(self):
        far = (4, "two", 3, "longer", "winner"), (4, "two", 3, "longer", "only")
        for sight in (1, 2, "winner"):
            length = searching.parting_length(far[0], far[1], sight)
            self.check(far[0], far[1], sight, searching.first_parting_row(far[0], far[1], sight, length))
        self.assertGreater(len(telling_row(far[0], far[1], 1)), 12)


class FamilyTest(unittest.TestCase):
    def check(self, family, sight):
        table = telling_table(family, sight)
        lengths = [
            [searching.parting_length(one, other, sight) for other in family]
            for one in family
        ]
        self.assertEqual(table, lengths)
        groups = {}
        for place, row in enumerate(lengths):
            alike = tuple(other for other, length in enumerate(row) if length is None)
            groups[alike] = [at for at in alike]
            self.assertIn(place, alike)
        self.assertEqual(classes(family, sight), sorted(groups.values()))
        return table

    def test_worked_by_hand(self):
        self.assertEqual(telling_table([P, Q, P], 0), [[None, 1, None], [1, None, 1], [None, 1, None]])
        self.assertEqual(classes([P, Q, P], 0), [[0, 2], [1]])
        self.assertEqual(classes([Q, P, P, Q], 1), [[0, 3], [1, 2]])
        self.assertEqual(telling_table([P, Q], 2), [[None, 5], [5, None]])
        self.assertEqual(classes([P, P[:4] + ("twos",), Q, P[:4] + ("winner",)], 2), [[0, 1, 3], [2]])
        self.assertEqual(classes([P, P[:4] + ("twos",), Q, P[:4] + ("winner",)], 1), [[0], [1], [2], [3]])

    def test_families_of_one(self):
        for rule in all_rules()[::7]:
            for sight in SIGHTS:
                self.assertEqual(telling_table([rule], sight), [[None]])
                self.assertEqual(classes([rule], sight), [[0]])

    def test_families_of_all_sizes(self):
        rules = all_rules()
        sizes = {}
        for k in range(24):
            # Equal rules, and rules that are alike in a sight only, stand among them.
            family = [rules[(k * 41 + (0, 1, 2, 0, 24, 1, 4, 100)[(at + k) % 8]) % 216] for at in range(k % 8 + 1)]
            for sight in SIGHTS:
                self.check(family, sight)
                sizes[(len(family), len(classes(family, sight)))] = True
        self.assertGreater(len(sizes), 10)

    def test_eight_equal_rules(self):
        for sight in SIGHTS:
            self.assertEqual(telling_table([Q] * 8, sight), [[None] * 8] * 8)
            self.assertEqual(classes([Q] * 8, sight), [list(range(8))])

    def test_the_lists_of_the_table_are_different_ones(self):
        table = telling_table([P, P, Q], 0)
        table[0][0] = "changed"
        self.assertEqual(table[1:], [[None, None, 1], [1, 1, None]])


class ArgumentsTest(unittest.TestCase):
    def test_wrong_arguments(self):
        for sight in SIGHTS:
            for function in (same, telling_row):
                arguments.check_wrong_arguments(
                    self, function, ("rule", "rule", "sight"), (P, Q, sight), sight)
            for function in (classes, telling_table):
                arguments.check_wrong_arguments(self, function, ("family", "sight"), ([P, Q], sight), sight)
        for function in (same_winners, winners_row):
            arguments.check_wrong_arguments(self, function, ("rule", "rule"), (P, Q), 0)

    def test_limits_of_families(self):
        for function in (classes, telling_table):
            self.assertEqual(len(function([P] * 7 + [Q], 0)), 2 if function == classes else 8)
            arguments.assert_raises_just(self, BadRule, function, ([P] * 7 + [Q] * 2, 0))
            arguments.assert_raises_just(self, BadRule, function, ([], 0))

    def test_rules_that_are_alike_raise_not_found(self):
        for sight in SIGHTS:
            arguments.assert_raises_just(self, NotFound, telling_row, (P, P, sight))
        arguments.assert_raises_just(self, NotFound, winners_row, (Q, Q))

    def test_calls_change_nothing_and_lists_are_new(self):
        for sight in SIGHTS:
            for one, other in ((P, Q), (P, P), (Q, (3, "one", 2, "longer", "twos"))):
                arguments.check_call(self, same, (one, other, sight))
                arguments.check_call(self, telling_row, (one, other, sight))
                arguments.check_call(self, classes, ([one, other, one], sight))
                arguments.check_call(self, telling_table, ([one, other, one], sight))
                arguments.check_call(self, same_winners, (one, other))
                arguments.check_call(self, winners_row, (one, other))


if __name__ == "__main__":
    unittest.main()
