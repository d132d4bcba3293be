import unittest

from matchboards.errors import BadRule, NotFound
from matchboards.finding import finding_plan, groups, parting_row, rallies_needed
from matchboards.rules import all_rules
from matchboards.telling import same, telling_row
from tests import arguments, scoring, searching, wrong
from tests.planning import Hunt

P = (2, "two", 1, "same", "games")
Q = (2, "cap", 1, "same", "winner")
ONE = (2, "one", 1, "same", "games")
SIGHTS = (0, 1, 2)
FUNCTIONS_OF_FOUR = (rallies_needed, finding_plan, parting_row)
# No row parts all rules of these, in a sight.
NEVER_PARTED = [
    ([(2, "one", 1, "longer", "games"), (4, "one", 1, "same", "games"), (2, "cap", 1, "longer", "winner")], 2),
    ([(3, "two", 1, "longer", "winner"), (3, "two", 1, "same", "winner"), (2, "cap", 1, "longer", "winner")], 1),
    ([(3, "two", 1, "longer", "winner"), (3, "two", 1, "same", "winner"), (2, "cap", 1, "longer", "winner")], 2),
]


def similar_families():
    """Return families of rules that differ in few items, some of them equal or alike."""
    rules = [rule for rule in all_rules() if rule[0] < 4 and rule[2] < 3]
    families = []
    for k in range(len(rules)):
        steps = ((1, 2, 3), (4, 8, 12), (0, 1, 16), (16, 32, 48), (4, 0, 5))[k % 5]
        families.append(([rules[k]] + [rules[(k + step) % len(rules)] for step in steps])[:k % 4 + 1])
    return families


def mixed_families():
    """Return families of rules from everywhere."""
    rules = all_rules()
    return [[rules[(k * 53 + at * (k * 7 + 31)) % 216] for at in range(k % 4 + 1)] for k in range(24)]


class NeededTest(unittest.TestCase):
    def test_worked_by_hand(self):
        self.assertEqual(rallies_needed([P, Q], 0), 1)
        self.assertEqual(finding_plan([P, Q], 0), (
            "rally", 1, [((0, 0, 1, 0, 0), ("left", [0])), ((1, 0, 1, 0, 0), ("left", [1]))],
        ))
        self.assertEqual(rallies_needed([P, Q], 1), 1)
        self.assertEqual(finding_plan([Q, P, Q], 1), ("rally", 1, [(0, ("left", [1])), (1, ("left", [0, 2]))]))

    def test_rules_that_become_alike_are_found(self):
        # Behind [0, 0] both matches have ended for side 0: from there on nothing tells them apart, nor need it.
        self.assertEqual(rallies_needed([P, ONE], 2), 2)
        self.assertEqual(finding_plan([P, ONE], 2), (
            "rally", 0, [((0, 0), ("rally", 0, [((1, 0), ("left", [0, 1]))]))],
        ))
        self.assertEqual(telling_row(P, ONE, 2), [0, 1, 0])
        self.assertEqual(parting_row([P, ONE], 2), [0, 1, 0])

    def test_a_found_rule_needs_no_rally(self):
        for rule in all_rules()[::5]:
            for sight in SIGHTS:
                for family in ([rule], [rule] * 2, [rule] * 4):
                    self.assertEqual(rallies_needed(family, sight), 0)
                    self.assertEqual(finding_plan(family, sight), ("left", list(range(len(family)))))
                    self.assertEqual(parting_row(family, sight), [])

    def test_alike_rules_need_no_rally(self):
        alike = [(2, "cap", 1, "longer", "only"), (3, "cap", 1, "same", "only")]
        for sight in SIGHTS:
            self.assertEqual(rallies_needed(alike, sight), 0)
            self.assertEqual(finding_plan(alike, sight), ("left", [0, 1]))
            self.assertEqual(parting_row(alike, sight), [])
        serves = [P[:4] + (serve,) for serve in ("games", "twos", "winner")]
        self.assertEqual(finding_plan(serves, 2), ("left", [0, 1, 2]))
        self.assertEqual(parting_row(serves, 2), [])

    def test_a_plan_of_three_rules(self):
        family = [ONE, P, (3, "one", 1, "same", "games")]
        # [0, 0] ends the match for the first two, which are alike from there on.
        plan = (
            "rally", 0, [((0, 1, 0, 0, 0), ("rally", 0, [
                ((0, 2, 0, 0, 0), ("left", [2])),
                ((1, 0, 0, 1, 0), ("left", [0, 1])),
            ]))],
        )
        self.assertEqual(finding_plan(family, 0), plan)
        self.assertEqual(rallies_needed(family, 0), 2)
        # [0, 1, 0] ends the match for the first one only; behind it, a point of side 0 makes the others alike.
        self.assertEqual(parting_row(family, 0), [0, 1, 0, 1])

    def test_side_1_where_side_0_needs_more(self):
        only = ONE[:4] + ("only",)
        self.assertEqual(finding_plan([ONE, only], 0), (
            "rally", 1, [((0, 0, 1, 0, 0), ("left", [0])), ((1, 0, 0, 0, 0), ("left", [1]))],
        ))


class PlansTest(unittest.TestCase):
    def check(self, family, sight):
        hunt = Hunt(family, sight)
        many = hunt.needed[hunt.start]
        self.assertEqual(rallies_needed(family, sight), many, (family, sight))
        plan = finding_plan(family, sight)
        self.assertEqual(plan, hunt.plan(hunt.start), (family, sight))
        row = hunt.parting_row()
        if row is None:
            self.assertRaises(NotFound, parting_row, family, sight)
        else:
            self.assertEqual(parting_row(family, sight), row, (family, sight))
            self.check_row(family, sight, row)
        self.check_done(hunt, plan, family, sight)
        return many, None if row is None else len(row)

    def check_row(self, family, sight, row):
        for one in family:
            for other in family:
                unlike = searching.seen_row(one, row, sight) != searching.seen_row(other, row, sight)
                self.assertIs(unlike, not same(one, other, sight))

    def check_done(self, hunt, plan, family, sight):
        """Do a plan with each rule of the family, by the second scorer."""
        lengths = []
        for place, rule in enumerate(family):
            row, left = [], plan
            while left[0] == "rally":
                row.append(left[1])
                parts = left[2]
                self.assertEqual(parts, sorted(parts, key=lambda part: part[0]))
                left = dict(parts)[searching.seen_row(rule, row, sight)[-1]]
            boards = searching.seen_row(rule, row, sight)
            places = [at for at, other in enumerate(family) if searching.seen_row(other, row, sight) == boards]
            self.assertEqual(left, ("left", places))
            self.assertIn(place, places)
            come = tuple((at, scoring.run(family[at], row)[0][-1]) for at in places)
            self.assertTrue(hunt.is_found(come))
            lengths.append(len(row))
        self.assertEqual(max(lengths), rallies_needed(family, sight))

    def test_similar_rules(self):
        told = {}
        for family in similar_families():
            for sight in SIGHTS:
                told[(len(family),) + self.check(family, sight)] = True
        self.assertGreater(len(told), 40)

    def test_rules_from_everywhere(self):
        lengths = {}
        for family in mixed_families():
            for sight in SIGHTS:
                lengths[self.check(family, sight)[0]] = True
        self.assertGreater(len(lengths), 7)

    def test_long_games(self):
        rules = [(4, lead, 3, "longer", "games") for lead in ("one", "two", "cap")]
        rules.append((4, "cap", 3, "same", "games"))
        for sight in SIGHTS:
            self.check(rules, sight)
            self.check(rules[1:], sight)
        self.check([(4, "cap", 3, "longer", "winner"), (4, "cap", 3, "same", "winner")], 1)
        self.check([(4, "two", 3, "longer", "only"), (4, "cap", 3, "longer", "only")], 2)

    def test_no_row_parts_all(self):
        for family, sight in NEVER_PARTED:
            self.assertEqual(self.check(family, sight)[1], None)
            arguments.assert_raises_just(self, NotFound, parting_row, (family, sight))
            # Any two of them are parted by some row.
            for at in range(3):
                others = family[:at] + family[at + 1:]
                self.assertEqual(parting_row(others, sight), telling_row(others[0], others[1], sight))

    def test_two_rules_are_parted_by_their_telling_row(self):
        rules = all_rules()
        for k, rule in enumerate(rules):
            for sight in SIGHTS:
                other = rules[(k * 5 + 7) % 216]
                if not same(rule, other, sight):
                    self.assertEqual(parting_row([rule, other], sight), telling_row(rule, other, sight))

    def test_the_order_of_the_rules_changes_the_places_only(self):
        for family in mixed_families()[3::4]:
            for sight in SIGHTS:
                turned = family[::-1]
                self.assertEqual(rallies_needed(turned, sight), rallies_needed(family, sight))

                def renamed(plan):
                    if plan[0] == "left":
                        return ("left", sorted(3 - place for place in plan[1]))
                    return ("rally", plan[1], [(board, renamed(part)) for board, part in plan[2]])

                self.assertEqual(finding_plan(turned, sight), renamed(finding_plan(family, sight)))


class GroupsTest(unittest.TestCase):
    def check(self, family, row, sight):
        shown = [searching.seen_row(rule, row, sight) for rule in family]
        expected = sorted({tuple(at for at, its in enumerate(shown) if its == boards) for boards in shown_once(shown)})
        self.assertEqual(groups(family, row, sight), [list(group) for group in expected])
        return len(expected)

    def test_worked_by_hand(self):
        self.assertEqual(groups([P, Q, P], [1], 0), [[0, 2], [1]])
        self.assertEqual(groups([P, Q, P], [0], 0), [[0, 1, 2]])
        self.assertEqual(groups([Q, P, ONE], [0, 1, 0], 1), [[0], [1], [2]])
        self.assertEqual(groups([Q, P, ONE], [0, 0], 2), [[0, 1, 2]])

    def test_the_empty_row(self):
        for sight in SIGHTS:
            self.assertEqual(groups([P, Q, ONE], [], sight), [[0, 1, 2]])

    def test_families_up_to_8_and_rows_up_to_60(self):
        rules = all_rules()
        sizes = {}
        rows = scoring.long_rows()
        for k in range(48):
            family = [rules[(k * 31 + (0, 1, 72, 4, 0, 24, 8, 2)[(at + k) % 8]) % 216] for at in range(k % 8 + 1)]
            row = rows[k % len(rows)][:(60, 1, 7, 23)[k // 8 % 4]]
            for sight in SIGHTS:
                sizes[(len(family), self.check(family, row, sight))] = True
        self.assertGreater(len(sizes), 15)
        for row in rows:
            self.check(rules[::28][:8], row, 2)

    def test_eight_equal_rules(self):
        for sight in SIGHTS:
            self.assertEqual(groups([Q] * 8, [0, 1] * 30, sight), [list(range(8))])


def shown_once(shown):
    return [boards for at, boards in enumerate(shown) if boards not in shown[:at]]


class ArgumentsTest(unittest.TestCase):
    def test_wrong_arguments(self):
        for function in FUNCTIONS_OF_FOUR:
            arguments.check_wrong_arguments(self, function, ("family", "sight"), ([P, Q], 0), 0)
        arguments.check_wrong_arguments(self, groups, ("family", "row", "sight"), ([P, Q], [0], 0), 0)

    def test_families_of_5_to_8_rules(self):
        for many in (5, 6, 7, 8):
            for function in FUNCTIONS_OF_FOUR:
                for sight in SIGHTS:
                    arguments.assert_raises_just(self, NotFound, function, ([P] * many, sight))
                    arguments.assert_raises_just(self, NotFound, function, ([P, Q] + [ONE] * (many - 2), sight))
                # All arguments are checked first.
                for rule in wrong.wrong_rules()[::5]:
                    arguments.assert_raises_just(self, BadRule, function, ([P] * (many - 1) + [rule], 0))
                arguments.check_wrong_arguments(self, function, ("family", "sight"), ([P] * many, 0), 0)

    def test_limits_of_families(self):
        for function in FUNCTIONS_OF_FOUR:
            function([P, Q, ONE, P], 0)
            arguments.assert_raises_just(self, BadRule, function, ([], 0))
            arguments.assert_raises_just(self, BadRule, function, ([P] * 9, 0))
        arguments.assert_raises_just(self, BadRule, groups, ([], [0], 0))
        arguments.assert_raises_just(self, BadRule, groups, ([P] * 9, [0], 0))

    def test_never_parted_behind_wrong_arguments(self):
        family = NEVER_PARTED[0][0]
        arguments.check_wrong_arguments(self, parting_row, ("family", "sight"), (family, 2), 2)

    def test_calls_change_nothing_and_lists_are_new(self):
        for sight in SIGHTS:
            for family in ([P], [P, Q], [P, P, ONE], [ONE, Q, P, (3, "one", 1, "same", "games")], [P] * 5):
                for function in FUNCTIONS_OF_FOUR:
                    arguments.check_call(self, function, (family, sight))
                arguments.check_call(self, groups, (family, [0, 1, 1, 0], sight))


if __name__ == "__main__":
    unittest.main()
