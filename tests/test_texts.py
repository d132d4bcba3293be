import unittest

from matchboards.errors import BadBoards, BadRally, BadRule, BadText
from matchboards.rules import all_rules
from matchboards.texts import format_boards, format_row, format_rule, parse_boards, parse_row, parse_rule
from tests import arguments, scoring, searching, wrong

P = (2, "two", 1, "same", "games")
Q = (2, "cap", 1, "same", "winner")
SIGHTS = (0, 1, 2)
PARSERS = (parse_rule, parse_row, parse_boards)
# Digits and signs that are not ASCII, but that int, str.isdigit or str.strip take for such.
FOREIGN = ("\u0661", "\u0660", "\uff11", "\uff10", "\u00b9", "\u00b2", "\u2070", "\U0001d7ce", "\U0001d7cf", "\u0967")
SPACES = (" ", "  ", "\t", "\n", "\r", "\x0b", "\x0c", "\u00a0", "\u2003", "\u3000", "\x00")


def all_boards(sight):
    """Return all boards of a sight."""
    games = [(zero, one) for zero in range(4) for one in range(4)]
    if sight == 1:
        return [0, 1]
    if sight == 2:
        return games
    return [(side, zero, one) + both for side in (0, 1) for zero in range(6) for one in range(6) for both in games]


def changed_texts(text):
    """Return texts that differ from a text by a mark that is left out, doubled, put in, or another one."""
    marks = list(" 0123456789-+:,_.;xoaO") + list(FOREIGN) + list(SPACES)
    texts = [text[:at] + text[at + 1:] for at in range(len(text))]
    for at in range(len(text) + 1):
        for mark in marks:
            texts += [text[:at] + mark + text[at:], text[:at] + mark + text[at + 1:]]
    return [other for other in texts if other != text]


class TextsTest(unittest.TestCase):
    def check_bad(self, parse, text):
        arguments.assert_raises_just(self, BadText, parse, (text,))

    def check_only(self, parse, format_it, texts):
        """Check that a text is taken just if it is what is formatted of what it tells."""
        for text in texts:
            try:
                told = parse(text)
            except BadText:
                continue
            self.assertEqual(format_it(told), text)


class RuleTextsTest(TextsTest):
    def test_worked_by_hand(self):
        self.assertEqual(format_rule(P), "2 two 1 same games")
        self.assertEqual(format_rule((4, "cap", 3, "longer", "only")), "4 cap 3 longer only")
        self.assertEqual(parse_rule("2 cap 1 same winner"), Q)

    def test_all_rules(self):
        texts = [format_rule(rule) for rule in all_rules()]
        self.assertEqual(len(set(texts)), 216)
        for rule, text in zip(all_rules(), texts):
            self.assertEqual(text, f"{rule[0]} {rule[1]} {rule[2]} {rule[3]} {rule[4]}")
            told = parse_rule(text)
            self.assertEqual(told, rule)
            self.assertEqual([type(item) for item in told], [int, str, int, str, str])
            self.assertIs(type(told), tuple)

    def test_texts_of_no_rule(self):
        good = "2 two 1 same games"
        words = good.split(" ")
        for space in SPACES:
            for text in (space + good, good + space, good.replace(" ", space + " ", 1), good.replace(" ", " " + space)):
                self.check_bad(parse_rule, text)
            if space != " ":
                self.check_bad(parse_rule, good.replace(" ", space))
        for text in (
            "", " ", "2", "two", "2 two 1 same", "2 two 1 same games games", "two 2 1 same games", "2 1 two same games",
            "2 two 1 games same", "games same 1 two 2", "2two1samegames", "2,two,1,same,games", str(P), "2 two 1 same Games",
            "2 TWO 1 same games", "1 two 1 same games", "5 two 1 same games", "2 two 0 same games", "2 two 4 same games",
            "02 two 1 same games", "+2 two 1 same games", "-2 two 1 same games", "2 two 01 same games", "2.0 two 1 same games",
            "2 two 1 same game", "2 three 1 same games", "2 two 1 short games", "2 2 1 same games", "True two 1 same games",
            "2 two 1 same games\n", "'2 two 1 same games'", "2 two 1 same games 2 two 1 same games",
        ):
            self.check_bad(parse_rule, text)
        for mark in FOREIGN:
            self.check_bad(parse_rule, mark + good[1:])
            self.check_bad(parse_rule, good.replace("1", mark))
        for at in range(5):
            self.check_bad(parse_rule, " ".join(words[:at] + words[at + 1:]))
            self.check_bad(parse_rule, " ".join(words[:at] + [words[at]] + words[at:]))
            self.check_bad(parse_rule, " ".join(words[:at] + [""] + words[at + 1:]))

    def test_changed_texts(self):
        for text in ("2 two 1 same games", "4 one 3 longer only"):
            self.check_only(parse_rule, format_rule, changed_texts(text))


class RowTextsTest(TextsTest):
    def test_worked_by_hand(self):
        self.assertEqual(format_row([0, 1, 1]), "011")
        self.assertEqual(format_row([]), "")
        self.assertEqual(parse_row("100"), [1, 0, 0])
        self.assertEqual(parse_row(""), [])

    def test_rows_of_all_lengths(self):
        rows = scoring.rows_up_to(6) + scoring.long_rows()
        rows += [row[:length] for length, row in enumerate(scoring.mixed_rows(61, 60, 9))]
        for row in rows:
            text = format_row(row)
            self.assertEqual(text, "".join("01"[rally] for rally in row))
            told = parse_row(text)
            self.assertEqual(told, row)
            self.assertTrue(all(type(rally) is int for rally in told))

    def test_texts_of_no_row(self):
        for text in (
            " ", "0 1", " 01", "01 ", "0,1", "[0, 1]", "012", "2", "01-1", "+01", "-0", "0b1", "0_1", "01\n", "\n", "l", "O",
            "0" * 61, "01" * 31, "0" * 200, "1" * 60 + " ", "1" * 60 + "\n", "True", "None",
        ):
            self.check_bad(parse_row, text)
        for mark in FOREIGN + SPACES:
            for text in (mark, "0" + mark, mark + "1", "1" + mark + "1"):
                self.check_bad(parse_row, text)

    def test_changed_texts(self):
        for text in ("", "0110", "10" * 30):
            self.check_only(parse_row, format_row, changed_texts(text))


class BoardTextsTest(TextsTest):
    def test_worked_by_hand(self):
        self.assertEqual(format_boards([0, 1]), "0 1")
        self.assertEqual(format_boards([(0, 1, 0, 0, 0), (0, 1, 1, 0, 0)]), "0:1-0,0-0 0:1-1,0-0")
        self.assertEqual(format_boards([(0, 0), (1, 0)]), "0-0 1-0")
        self.assertEqual(format_boards([]), "")
        self.assertEqual(format_boards([(1, 2, 5, 3, 0)]), "1:2-5,3-0")
        self.assertEqual(parse_boards("1:2-5,3-0"), [(1, 2, 5, 3, 0)])
        self.assertEqual(parse_boards("1 1 0"), [1, 1, 0])
        self.assertEqual(parse_boards("3-2"), [(3, 2)])
        self.assertEqual(parse_boards(""), [])

    def check(self, boards, sight):
        text = format_boards(boards)
        words = {
            0: lambda board: "{}:{}-{},{}-{}".format(*board),
            1: lambda board: "{}".format(board),
            2: lambda board: "{}-{}".format(*board),
        }
        self.assertEqual(text, " ".join(words[sight](board) for board in boards))
        told = parse_boards(text)
        self.assertEqual(told, boards)
        self.assertTrue(all(type(board) is (int if sight == 1 else tuple) for board in told))

    def test_all_boards(self):
        for sight in SIGHTS:
            boards = all_boards(sight)
            for at, board in enumerate(boards):
                self.check([board], sight)
                self.check([board, boards[at * 7 % len(boards)], board], sight)
            for at in range(0, len(boards), 60):
                self.check(boards[at:at + 60], sight)

    def test_boards_of_rules(self):
        for k, rule in enumerate(all_rules()):
            for sight in SIGHTS:
                row = scoring.long_rows()[k % 16]
                for length in (0, 1, 9, 60):
                    self.check(searching.seen_row(rule, row[:length], sight), sight)

    def test_60_boards_and_61(self):
        for sight in SIGHTS:
            board = all_boards(sight)[-1]
            self.check([board] * 60, sight)
            arguments.assert_raises_just(self, BadBoards, format_boards, ([board] * 61,))
            text = format_boards([board])
            self.assertEqual(parse_boards(" ".join([text] * 60)), [board] * 60)
            self.check_bad(parse_boards, " ".join([text] * 61))
            self.check_bad(parse_boards, " ".join([text] * 200))

    def test_boards_of_more_than_one_sight(self):
        for good in wrong.GOOD_BOARDS:
            for other in wrong.GOOD_BOARDS:
                if good != other:
                    for boards in ([good, other], [good] * 59 + [other], [other, good, other]):
                        arguments.assert_raises_just(self, BadBoards, format_boards, (boards,))
                    texts = [format_boards([board]) for board in (good, other)]
                    self.check_bad(parse_boards, " ".join(texts))
                    self.check_bad(parse_boards, " ".join([texts[0]] * 59 + [texts[1]]))

    def test_texts_of_no_board_row(self):
        for text in (
            " ", "2", "-1", "+1", "01", "00", "0  1", " 0", "0 ", "0,1", "0\t1", "0\n1", "0\n", "0 1 2", "0 1 x", "x",
            "4-0", "0-4", "1-00", "01-0", "-0", "0-", "-", "0--0", "0 - 0", "0-+1", "+0-0", "0-0-0", "0:0", "0,0", "0-0,0-0",
            "2:0-0,0-0", "0:6-0,0-0", "0:0-6,0-0", "0:0-0,4-0", "0:0-0,0-4", "0:0-0,0-0,0-0", "0:0-0 0-0", "0:0-0, 0-0",
            "0: 0-0,0-0", "0:0-0", ":0-0,0-0", "0:00-0,0-0", "00:0-0,0-0", "+0:0-0,0-0", "0:+1-0,0-0", "0:-1-0,0-0",
            "0:0:0,0-0", "0:0,0-0,0", "0-0:0,0-0", "0:0-0,0-10", "(0, 0)", "[0, 1]", "True", "None", "0:0-0,0-0  0:0-0,0-0",
        ):
            self.check_bad(parse_boards, text)
        for mark in FOREIGN:
            for text in (mark, "0 " + mark, mark + "-0", "0-" + mark, "0:" + mark + "-0,0-0", "0:0-0,0-" + mark):
                self.check_bad(parse_boards, text)
        for space in SPACES:
            for text in ("0", "0-0", "0:0-0,0-0"):
                self.check_bad(parse_boards, space + text)
                self.check_bad(parse_boards, text + space)
                self.check_bad(parse_boards, text + space + " " + text)
                if space != " ":
                    self.check_bad(parse_boards, text + space + text)

    def test_changed_texts(self):
        for text in ("", "0 1", "0-0 1-0", "0:1-0,0-0 1:5-4,2-3", "1 " * 59 + "0"):
            self.check_only(parse_boards, format_boards, changed_texts(text))


class ArgumentsTest(TextsTest):
    def test_what_is_not_valid(self):
        arguments.check_wrong_arguments(self, format_rule, ("rule",), (P,), 0)
        arguments.check_wrong_arguments(self, format_row, ("row",), ([0],), 0)
        arguments.check_wrong_arguments(self, format_boards, ("boards of some sight",), ([0],), 0)
        for parse in PARSERS:
            arguments.check_wrong_arguments(self, parse, ("text",), ("",), 0)

    def test_limits(self):
        arguments.assert_raises_just(self, BadRally, format_row, ([0] * 61,))
        arguments.assert_raises_just(self, BadRule, format_rule, ((5, "two", 1, "same", "games"),))
        for board in ((2, 0, 0, 0, 0), (0, 6, 0, 0, 0), (0, 0, 6, 0, 0), (0, 0, 0, 4, 0), (0, 0, 0, 0, 4), 2, -1, (4, 0), (0, 4)):
            arguments.assert_raises_just(self, BadBoards, format_boards, ([board],))
        for board in ((1, 5, 5, 3, 3), 1, (3, 3)):
            self.assertEqual(parse_boards(format_boards([board])), [board])

    def test_calls_change_nothing_and_lists_are_new(self):
        arguments.check_call(self, format_rule, (P,))
        arguments.check_call(self, parse_rule, ("2 two 1 same games",))
        for row in ([], [0, 1, 1]):
            arguments.check_call(self, format_row, (row,))
            arguments.check_call(self, parse_row, (format_row(row),))
        for boards in ([], [0, 1], [(0, 0), (1, 0)], [(0, 1, 0, 0, 0)]):
            arguments.check_call(self, format_boards, (boards,))
            arguments.check_call(self, parse_boards, (format_boards(boards),))


if __name__ == "__main__":
    unittest.main()
