import unittest

from matchboards.errors import BadNumber, BadRally, BadRule, NotFound
from matchboards.rules import all_rules
from matchboards.tables import Table
from tests import arguments, scoring, searching, wrong

P = (2, "two", 1, "same", "games")
Q = (2, "cap", 1, "same", "winner")
SIGHTS = (0, 1, 2)


class TablesTest(unittest.TestCase):
    def check(self, table, rule, row, sight):
        """Check all that a table tells behind a row."""
        self.assertEqual(table.state(), scoring.run(rule, row)[0][-1])
        self.assertEqual(table.rallies(), row)
        self.assertEqual(table.boards(), searching.seen_row(rule, row, sight))
        self.assertEqual(len(table), len(row))


class PlayTest(TablesTest):
    def test_worked_by_hand(self):
        table = Table(P, 0)
        self.assertEqual(len(table), 0)
        self.assertEqual(table.state(), (0, 0, 0, 0, 0, 0))
        self.assertEqual(table.rallies(), [])
        self.assertEqual(table.boards(), [])
        self.assertEqual(table.play(0), (0, 1, 0, 0, 0))
        self.assertEqual(table.play(1), (0, 1, 1, 0, 0))
        self.assertEqual(table.play(1), (0, 1, 2, 0, 0))
        self.assertEqual(table.undo(), 1)
        self.assertEqual(table.play(0), (0, 2, 1, 0, 0))
        self.assertEqual(table.rallies(), [0, 1, 0])
        self.assertEqual(table.boards(), [(0, 1, 0, 0, 0), (0, 1, 1, 0, 0), (0, 2, 1, 0, 0)])
        self.assertEqual(table.state(), (0, 2, 1, 0, 0, 0))
        self.assertEqual([table.undo(), table.undo(), table.undo()], [0, 1, 0])
        self.assertEqual(len(table), 0)

    def test_each_rule_rally_by_rally(self):
        row = scoring.mixed_rows(1, 25, 77)[0]
        for k, rule in enumerate(all_rules()):
            sight = k % 3
            table = Table(rule, sight)
            for many in range(len(row)):
                self.assertEqual(table.play(row[many]), searching.seen_row(rule, row[:many + 1], sight)[-1])
                self.assertEqual(len(table), many + 1)
            self.check(table, rule, row, sight)

    def test_rallies_played_and_taken_back_in_many_orders(self):
        rules = all_rules()
        for k in range(0, 216, 3):
            rule, sight = rules[k], k // 3 % 3
            table, row = Table(rule, sight), []
            moves = scoring.mixed_rows(1, 160, k)[0]
            for back, rally in zip(moves[:80], moves[80:]):
                # Behind two rallies that are played, one or none is taken back.
                for each in (rally, 1 - rally):
                    row.append(each)
                    self.assertEqual(table.play(each), searching.seen_row(rule, row, sight)[-1])
                for _ in range(back * 3):
                    if row:
                        self.assertEqual(table.undo(), row.pop())
                    else:
                        self.assertRaises(NotFound, table.undo)
                self.check(table, rule, row, sight)

    def test_all_taken_back_and_played_anew(self):
        for rule in (P, Q, (3, "cap", 2, "longer", "twos")):
            for sight in SIGHTS:
                table = Table(rule, sight)
                for row in scoring.long_rows():
                    for rally in row:
                        table.play(rally)
                    self.check(table, rule, row, sight)
                    self.assertEqual([table.undo() for _ in row], row[::-1])
                    self.check(table, rule, [], sight)

    def test_rallies_behind_the_end_of_the_match(self):
        for sight in SIGHTS:
            table, row = Table(P, sight), [1, 1]
            table.play(1)
            end = table.play(1)
            for rally in (0, 0, 1, 0):
                row.append(rally)
                self.assertEqual(table.play(rally), end)
                self.check(table, P, row, sight)
            for _ in range(5):
                row.pop()
                table.undo()
                self.check(table, P, row, sight)

    def test_two_tables_do_not_touch_each_other(self):
        one, other, third = Table(P, 0), Table(P, 0), Table(Q, 1)
        one.play(0)
        third.play(1)
        one.play(1)
        self.check(one, P, [0, 1], 0)
        self.check(other, P, [], 0)
        self.check(third, Q, [1], 1)
        one.undo()
        other.play(1)
        self.check(one, P, [0], 0)
        self.check(other, P, [1], 0)
        self.check(third, Q, [1], 1)

    def test_returned_lists_are_new(self):
        for sight in SIGHTS:
            table = Table(Q, sight)
            for rally in (0, 1, 1):
                table.play(rally)
            for told in (table.rallies(), table.boards()):
                told.append("changed")
                told[0] = "changed"
                self.check(table, Q, [0, 1, 1], sight)
                told.clear()
                self.check(table, Q, [0, 1, 1], sight)
            self.assertIsNot(table.rallies(), table.rallies())
            self.assertIsNot(table.boards(), table.boards())

    def test_methods_are_defined_in_the_class_itself(self):
        for name in ("play", "state", "rallies", "boards", "undo", "__len__"):
            self.assertIn(name, vars(Table))


class ErrorsTest(TablesTest):
    def test_wrong_arguments_of_a_new_table(self):
        for sight in SIGHTS:
            arguments.check_wrong_arguments(self, Table, ("rule", "sight"), (P, sight), sight)
        arguments.assert_raises_just(self, BadNumber, Table, (P, 3))
        arguments.assert_raises_just(self, BadRule, Table, (list(P), 3))

    def test_what_is_no_rally_changes_nothing(self):
        for sight in SIGHTS:
            table, row = Table(Q, sight), []
            for rally in (0, 1, 1, 0):
                for value in wrong.wrong_rallies():
                    arguments.assert_raises_just(self, BadRally, table.play, (value,))
                    self.check(table, Q, row, sight)
                row.append(rally)
                table.play(rally)

    def test_undo_of_an_empty_table(self):
        for sight in SIGHTS:
            table = Table(P, sight)
            for _ in range(2):
                arguments.assert_raises_just(self, NotFound, table.undo, ())
                self.check(table, P, [], sight)
            table.play(1)
            self.assertEqual(table.undo(), 1)
            arguments.assert_raises_just(self, NotFound, table.undo, ())
            table.play(0)
            self.check(table, P, [0], sight)

    def test_at_most_200_rallies(self):
        # With "two" the match goes on for all of these.
        row = [0, 1, 1, 0] * 50
        for rule in (P, Q):
            for sight in SIGHTS:
                table = Table(rule, sight)
                for rally in row:
                    table.play(rally)
                self.check(table, rule, row, sight)
                for rally in (0, 1):
                    arguments.assert_raises_just(self, BadNumber, table.play, (rally,))
                    self.check(table, rule, row, sight)
                for value in wrong.wrong_rallies():
                    arguments.assert_raises_just(self, BadRally, table.play, (value,))
                self.check(table, rule, row, sight)
                self.assertEqual(table.undo(), 0)
                table.play(1)
                self.check(table, rule, row[:-1] + [1], sight)
                arguments.assert_raises_just(self, BadNumber, table.play, (0,))


if __name__ == "__main__":
    unittest.main()
