import unittest

from nextword.errors import Clash, NoEnd, NoRow, Unused, WordError


class ErrorClasses(unittest.TestCase):
    def test_word_error_is_a_value_error(self):
        self.assertTrue(issubclass(WordError, ValueError))
        self.assertEqual(WordError.__bases__, (ValueError,))

    def test_each_refusal_is_a_word_error(self):
        for kind in (NoEnd, Unused, Clash, NoRow):
            self.assertEqual(kind.__bases__, (WordError,))
            with self.assertRaises(WordError):
                raise kind("some words")

    def test_the_refusals_are_told_apart(self):
        kinds = (NoEnd, Unused, Clash, NoRow)
        for kind in kinds:
            for other in kinds:
                self.assertEqual(issubclass(kind, other), kind is other)

    def test_they_bear_their_names(self):
        names = [kind.__name__ for kind in (WordError, NoEnd, Unused, Clash, NoRow)]
        self.assertEqual(names, ["WordError", "NoEnd", "Unused", "Clash", "NoRow"])


if __name__ == "__main__":
    unittest.main()
