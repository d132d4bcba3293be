import unittest

from matchboards.errors import BadBoards, BadNumber, BadRally, BadRule, BadText, MatchError, NotFound

KINDS = (BadRule, BadRally, BadBoards, BadNumber, BadText, NotFound)


class ErrorsTest(unittest.TestCase):
    def test_all_are_direct_subclasses_of_match_error(self):
        for kind in KINDS:
            self.assertEqual(kind.__bases__, (MatchError,))

    def test_match_error_is_a_value_error(self):
        self.assertTrue(issubclass(MatchError, ValueError))
        self.assertIsNot(MatchError, ValueError)

    def test_they_are_six_kinds_with_their_names(self):
        self.assertEqual(
            [kind.__name__ for kind in KINDS],
            ["BadRule", "BadRally", "BadBoards", "BadNumber", "BadText", "NotFound"],
        )
        self.assertEqual(len(set(KINDS)), 6)

    def test_they_are_defined_in_errors(self):
        for kind in KINDS + (MatchError,):
            self.assertEqual(kind.__module__, "matchboards.errors")


if __name__ == "__main__":
    unittest.main()
