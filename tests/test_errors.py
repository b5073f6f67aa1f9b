import unittest

from tiefold.errors import Loose, NoPlace, Round, Tied, TieError


class Errors(unittest.TestCase):
    def test_tie_error_stands_straight_under_value_error(self):
        self.assertEqual(TieError.__bases__, (ValueError,))

    def test_each_refusal_stands_straight_under_tie_error(self):
        for kind in (NoPlace, Tied, Loose, Round):
            with self.subTest(kind=kind.__name__):
                self.assertEqual(kind.__bases__, (TieError,))

    def test_the_refusals_are_unlike(self):
        self.assertEqual(len({NoPlace, Tied, Loose, Round}), 4)

    def test_each_is_made_of_a_text(self):
        for kind in (TieError, NoPlace, Tied, Loose, Round):
            with self.subTest(kind=kind.__name__):
                self.assertEqual(str(kind("words")), "words")
                with self.assertRaises(TieError):
                    raise kind("words")


if __name__ == "__main__":
    unittest.main()
