import unittest

from matchboards.kinds import alike_groups, count_kinds
from matchboards.rules import all_rules
from tests import arguments, scoring, searching

P = (2, "two", 1, "same", "games")
Q = (2, "cap", 1, "same", "winner")
SIGHTS = (0, 1, 2)


def unlike_pairs(rule, sight):
    """Return the pairs of states from which some row shows unlike boards: first those that the
    next rally parts, then each pair from which a rally leads to such a pair."""
    moves, seen = searching.machine(rule), searching.shows(rule, sight)
    before = {}
    unlike = set()
    for one, its in moves.items():
        for other, others in moves.items():
            for pair in zip(its, others):
                before.setdefault(pair, []).append((one, other))
                if seen[pair[0]] != seen[pair[1]]:
                    unlike.add((one, other))
    waiting = list(unlike)
    while waiting:
        for pair in before.get(waiting.pop(), []):
            if pair not in unlike:
                unlike.add(pair)
                waiting.append(pair)
    return unlike


class KindsTest(unittest.TestCase):
    def check_form(self, rule, sight):
        groups = alike_groups(rule, sight)
        self.assertEqual(groups, sorted(sorted(group) for group in groups))
        self.assertEqual(sorted(state for group in groups for state in group), sorted(searching.machine(rule)))
        self.assertTrue(all(type(group) is list and group for group in groups))
        self.assertEqual(count_kinds(rule, sight), len(groups))
        return groups

    def check(self, rule, sight):
        unlike = unlike_pairs(rule, sight)
        groups = self.check_form(rule, sight)
        number = {state: at for at, group in enumerate(groups) for state in group}
        for one in number:
            for other in number:
                self.assertIs(number[one] != number[other], (one, other) in unlike)
        return len(groups)

    def test_worked_by_hand(self):
        # The serving side of 1-1 is not seen any more, nor does it matter with "winner".
        rule = (2, "one", 1, "same", "winner")
        self.assertEqual(alike_groups(rule, 0), [
            [(0, 0, 0, 0, 0, 0)], [(0, 0, 0, 1, 0, 0)], [(0, 1, 0, 0, 0, 0)],
            [(0, 1, 1, 0, 0, 0), (1, 1, 1, 0, 0, 0)], [(1, 0, 0, 0, 1, 0)], [(1, 0, 1, 0, 0, 0)],
        ])
        # Of the games alone, both ends and the points are told.
        self.assertEqual(alike_groups(P, 2), [
            [(0, 0, 0, 0, 0, 0), (0, 1, 1, 0, 0, 0)], [(0, 0, 1, 0, 0, 0), (0, 1, 2, 0, 0, 0)],
            [(0, 1, 0, 0, 0, 0), (0, 2, 1, 0, 0, 0)], [(1, 0, 0, 0, 1, 0)], [(1, 0, 0, 1, 0, 0)],
        ])
        # With "games" the serving side is 0 up to the end; then it is 1, whoever has won.
        self.assertEqual(alike_groups(P, 1), [
            [(0, 0, 0, 0, 0, 0), (0, 1, 1, 0, 0, 0)], [(0, 0, 1, 0, 0, 0), (0, 1, 2, 0, 0, 0)],
            [(0, 1, 0, 0, 0, 0), (0, 2, 1, 0, 0, 0)], [(1, 0, 0, 0, 1, 0), (1, 0, 0, 1, 0, 0)],
        ])
        # From 0-1 and from 1-2 a rally leads to 1-1, or to the end; 0-0 and 1-1 are told apart by what is seen next.
        self.assertEqual(alike_groups(P, 0), [
            [(0, 0, 0, 0, 0, 0)], [(0, 0, 1, 0, 0, 0), (0, 1, 2, 0, 0, 0)],
            [(0, 1, 0, 0, 0, 0), (0, 2, 1, 0, 0, 0)], [(0, 1, 1, 0, 0, 0)],
            [(1, 0, 0, 0, 1, 0)], [(1, 0, 0, 1, 0, 0)],
        ])
        self.assertEqual([count_kinds(P, sight) for sight in SIGHTS], [6, 4, 5])

    def test_the_board_of_the_state_itself_is_not_seen(self):
        # From 1-1 each rally leads to the same states, whichever side serves.
        groups = alike_groups(Q, 1)
        self.assertIn([(0, 1, 1, 0, 0, 0), (1, 1, 1, 0, 0, 0)], groups)
        for sight in SIGHTS:
            both = [group for group in alike_groups(Q, sight) if (0, 1, 1, 0, 0, 0) in group]
            self.assertIn((1, 1, 1, 0, 0, 0), both[0])

    def test_each_small_rule_against_another_search(self):
        told = {}
        for rule in all_rules():
            if len(searching.machine(rule)) < 60:
                for sight in SIGHTS:
                    told[self.check(rule, sight)] = True
        self.assertGreater(len(told), 30)

    def test_larger_rules_against_another_search(self):
        larger = [rule for rule in all_rules() if 60 <= len(searching.machine(rule))]
        for k, rule in enumerate(larger[::6]):
            self.check(rule, k % 3)

    def test_the_form_for_all_rules(self):
        for rule in all_rules():
            for sight in SIGHTS:
                self.check_form(rule, sight)

    def test_more_is_seen_in_the_sight_0(self):
        for rule in all_rules()[::3]:
            for sight in (1, 2):
                groups = alike_groups(rule, sight)
                for finer in alike_groups(rule, 0):
                    self.assertTrue(any(set(finer) <= set(group) for group in groups))

    def test_rows_from_alike_states_show_the_same(self):
        for rule in all_rules()[::11]:
            moves = searching.machine(rule)
            for sight in SIGHTS:
                seen = searching.shows(rule, sight)
                for group in alike_groups(rule, sight):
                    for row in scoring.mixed_rows(2, 30, len(group)):
                        shown = set()
                        for state in group:
                            boards = []
                            for rally in row:
                                state = moves[state][rally]
                                boards.append(seen[state])
                            shown.add(tuple(boards))
                        self.assertEqual(len(shown), 1)


class ArgumentsTest(unittest.TestCase):
    def test_wrong_arguments(self):
        for function in (alike_groups, count_kinds):
            arguments.check_wrong_arguments(self, function, ("rule", "sight"), (P, 0), 0)

    def test_calls_change_nothing_and_lists_are_new(self):
        for rule in (P, Q, (3, "cap", 2, "longer", "only")):
            for sight in SIGHTS:
                arguments.check_call(self, alike_groups, (rule, sight))
                arguments.check_call(self, count_kinds, (rule, sight))


if __name__ == "__main__":
    unittest.main()
