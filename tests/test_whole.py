"""What the document promises of all functions together: their arguments, and their lists."""

import importlib
import inspect
import unittest

from matchboards.errors import BadBoards, BadNumber, BadRally, BadRule, BadText, NotFound
from matchboards.rules import all_rules, is_rally, is_row, is_rule
from matchboards.tables import Table
from tests import arguments, searching, wrong
from tests.test_package import INTERFACE

P = (2, "two", 1, "same", "games")
Q = (2, "cap", 1, "same", "winner")
ROW = [0, 1, 1, 0]
SIGHTS = (0, 1, 2)
# What each function takes, in its order. is_rule and its kind take anything, all_rules nothing.
TAKES = {
    "running": {
        "boards_of": "rule row sight", "state_after": "rule row", "states_along": "rule row", "points_made": "rule row",
        "winner_of": "rule row", "end_of": "rule row",
    },
    "reaching": {"count_states": "rule", "row_to": "rule state", "boards_that_come": "rule"},
    "reading": {
        "first_bar": "rule sight record", "made": "rule sight record", "remains": "family sight records",
        "bars": "family sight records",
    },
    "seeing": {
        "can_show": "rule sight boards", "showers": "family sight boards", "first_row": "rule sight boards",
        "states_behind": "rule sight boards", "count_rows": "rule sight boards",
    },
    "telling": {
        "same": "rule rule sight", "telling_row": "rule rule sight", "classes": "family sight",
        "telling_table": "family sight", "same_winners": "rule rule", "winners_row": "rule rule",
    },
    "spoken": {"is_within": "rule rule sight", "telling_boards": "rule rule sight", "spoken_classes": "family sight"},
    "finding": {
        "rallies_needed": "family sight", "finding_plan": "family sight", "parting_row": "family sight",
        "groups": "family row sight",
    },
    "choosing": {"best_rally": "family sight record", "count_same": "rule rule sight length"},
    "kinds": {"alike_groups": "rule sight", "count_kinds": "rule sight"},
    "matches": {
        "shortest_match": "rule", "longest_match": "rule", "count_ends": "rule length", "fewest_points": "rule",
        "lost_lead": "rule", "soonest": "rule row side",
    },
    "tables": {"Table": "rule sight"},
    "texts": {
        "format_rule": "rule", "format_row": "row", "format_boards": "boards of some sight", "parse_rule": "text",
        "parse_row": "text", "parse_boards": "text",
    },
}
TEXTS = {"parse_rule": "2 two 1 same games", "parse_row": "0110", "parse_boards": "0:1-0,0-0 0:1-1,0-0"}


def kinds_of(takes):
    return ("boards of some sight",) if takes == "boards of some sight" else tuple(takes.split(" "))


def good_arguments(name, kinds, sight):
    """Return arguments that are valid, new each time; two rules, where two are taken, are different ones."""
    boards = searching.seen_row(P, ROW, sight)
    goods = {
        "family": [P, Q, P], "row": list(ROW), "sight": sight, "state": (0, 1, 1, 0, 0, 0), "boards": boards,
        "boards of some sight": boards, "record": (list(ROW), boards),
        "records": [(list(ROW), boards), ([0], searching.seen_row(Q, [0], sight))],
        "length": 5, "side": 1, "text": TEXTS.get(name),
    }
    rules = [P, Q]
    return tuple(rules.pop(0) if kind == "rule" else goods[kind] for kind in kinds)


def all_calls():
    """Return (function, its kinds, good arguments, sight) for each function and each sight that it can take."""
    calls = []
    for module, functions in TAKES.items():
        for name, takes in functions.items():
            function = getattr(importlib.import_module("matchboards." + module), name)
            kinds = kinds_of(takes)
            of_sights = "sight" in kinds or kinds == ("boards of some sight",)
            for sight in SIGHTS if of_sights else (0,):
                calls.append((function, kinds, good_arguments(name, kinds, sight), sight))
    return calls


def lists_in(value):
    """Return all lists in a value, within it too."""
    found = [value] if isinstance(value, list) else []
    if isinstance(value, (list, tuple)):
        for item in value:
            found += lists_in(item)
    return found


class InterfaceTest(unittest.TestCase):
    def test_each_function_is_told_of_here(self):
        names = {(module, name) for module, functions in INTERFACE.items() for name in functions if module != "rules"}
        self.assertEqual(names, {(module, name) for module, functions in TAKES.items() for name in functions})

    def test_each_function_takes_so_many_arguments(self):
        for function, kinds, _, _ in all_calls():
            self.assertEqual(len(inspect.signature(function).parameters), len(kinds), function)

    def test_methods_of_a_table(self):
        for name, many in (("play", 2), ("state", 1), ("rallies", 1), ("boards", 1), ("undo", 1), ("__len__", 1)):
            self.assertEqual(len(inspect.signature(vars(Table)[name]).parameters), many)


class WrongArgumentsTest(unittest.TestCase):
    def test_each_argument_alone_and_with_those_behind_it(self):
        for function, kinds, goods, sight in all_calls():
            arguments.check_wrong_arguments(self, function, kinds, goods, sight)

    def test_any_two_arguments_at_once(self):
        for function, kinds, goods, sight in all_calls():
            for second in range(len(kinds)):
                for first in range(second):
                    error, values = arguments.KINDS[kinds[first]]
                    others = arguments.KINDS[kinds[second]][1](sight)
                    for at, value in enumerate(values(sight)[::5]):
                        bad = list(goods)
                        bad[first] = value
                        bad[second] = others[at * 3 % len(others)]
                        arguments.assert_raises_just(self, error, function, tuple(bad))

    def test_all_arguments_at_once(self):
        for function, kinds, goods, sight in all_calls():
            error, values = arguments.KINDS[kinds[0]]
            lists = [arguments.KINDS[kind][1](sight) for kind in kinds]
            for at in range(0, len(lists[0]), 3):
                bad = tuple(values[at * 3 % len(values)] if k else values[at] for k, values in enumerate(lists))
                arguments.assert_raises_just(self, error, function, bad)

    def test_the_wrong_value_of_another_place_may_be_good_elsewhere(self):
        # A rule where a row is asked for, a row where a rule is, and so on.
        goods = [P, [P, Q], [0, 1], 0, 2, (0, 0, 0, 0, 0, 0), ([0], [0]), [([0], [0])], "0"]
        right = {
            "rule": [P], "family": [[P, Q]], "row": [[0, 1]], "sight": [0, 2], "side": [0], "length": [0, 2],
            "state": [(0, 0, 0, 0, 0, 0)], "boards": [], "boards of some sight": [[0, 1]], "record": [], "records": [],
            "text": ["0"],
        }
        for function, kinds, own, sight in all_calls():
            if sight == 2 and "sight" in kinds:
                continue
            for at, kind in enumerate(kinds):
                for value in goods:
                    if value in right[kind] or sight == 1 and kind in ("boards", "record", "records"):
                        continue
                    bad = own[:at] + (value,) + own[at + 1:]
                    arguments.assert_raises_just(self, arguments.KINDS[kind][0], function, bad)

    def test_questions_take_anything(self):
        for values, question in (
            (wrong.wrong_rules(), is_rule), (wrong.wrong_rallies(), is_rally), (wrong.wrong_rows(), is_row),
        ):
            for value in values:
                self.assertIs(question(value), False)

    def test_a_table_checks_its_rallies(self):
        for sight in SIGHTS:
            table = Table(P, sight)
            table.play(0)
            for value in wrong.wrong_rallies():
                arguments.assert_raises_just(self, BadRally, table.play, (value,))
                self.assertEqual((table.rallies(), len(table)), ([0], 1))


class ListsTest(unittest.TestCase):
    def test_no_argument_is_changed_and_lists_are_new(self):
        for function, kinds, goods, sight in all_calls():
            if function is not Table:
                arguments.check_call(self, function, goods)

    def test_no_list_of_an_argument_is_returned(self):
        for function, kinds, goods, sight in all_calls():
            if function is not Table:
                told = lists_in(arguments.answer(function, goods))
                again = lists_in(arguments.answer(function, goods))
                for one in told:
                    for other in lists_in(goods) + again:
                        self.assertIsNot(one, other, function)
                for at, one in enumerate(told):
                    for other in told[:at]:
                        self.assertIsNot(one, other, function)

    def test_all_rules_is_a_new_list(self):
        rules = all_rules()
        rules.clear()
        self.assertEqual(len(all_rules()), 216)

    def test_tables_change_nothing_outside(self):
        for sight in SIGHTS:
            table = Table(P, sight)
            for rally in ROW:
                table.play(rally)
            arguments.check_call(self, table.rallies, ())
            arguments.check_call(self, table.boards, ())
            arguments.check_call(self, table.state, ())


class ExamplesTest(unittest.TestCase):
    def test_the_examples_of_the_document(self):
        told = {
            ("running", "boards_of"): ((P, [0, 1, 1], 0), [(0, 1, 0, 0, 0), (0, 1, 1, 0, 0), (0, 1, 2, 0, 0)]),
            ("seeing", "count_rows"): ((P, 1, [0, 0]), 2),
            ("telling", "telling_row"): ((P, Q, 0), [1]),
            ("matches", "longest_match"): ((Q,), 5),
        }
        for (module, name), (goods, expected) in told.items():
            function = getattr(importlib.import_module("matchboards." + module), name)
            self.assertEqual(function(*goods), expected)
        texts = importlib.import_module("matchboards.texts")
        for format_it, parse, value, text in (
            (texts.format_rule, texts.parse_rule, P, "2 two 1 same games"),
            (texts.format_row, texts.parse_row, [0, 1, 1], "011"),
            (texts.format_row, texts.parse_row, [], ""),
            (texts.format_boards, texts.parse_boards, [0, 1], "0 1"),
            (texts.format_boards, texts.parse_boards, [(0, 1, 0, 0, 0), (0, 1, 1, 0, 0)], "0:1-0,0-0 0:1-1,0-0"),
            (texts.format_boards, texts.parse_boards, [(0, 0), (1, 0)], "0-0 1-0"),
            (texts.format_boards, texts.parse_boards, [], ""),
        ):
            self.assertEqual(format_it(value), text)
            self.assertEqual(parse(text), value)

    def test_the_first_state(self):
        for rule in all_rules():
            self.assertEqual(Table(rule, 0).state(), (0, 0, 0, 0, 0, 0))

    def test_each_error_is_raised_by_its_kind(self):
        texts = importlib.import_module("matchboards.texts")
        arguments.assert_raises_just(self, BadRule, Table, (None, None))
        arguments.assert_raises_just(self, BadNumber, Table, (P, None))
        arguments.assert_raises_just(self, BadRally, texts.format_row, (None,))
        arguments.assert_raises_just(self, BadBoards, texts.format_boards, (None,))
        arguments.assert_raises_just(self, BadText, texts.parse_row, (None,))
        arguments.assert_raises_just(self, NotFound, Table(P, 0).undo, ())


if __name__ == "__main__":
    unittest.main()
