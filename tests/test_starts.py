import unittest

from nextword.errors import NoEnd, Unused
from nextword.starts import empty_sorts, words_to_begin
from tests.helper import BEYOND, EXAMPLE, LONG, WIDE_EMPTY, WIDE_FULL, ask_unchanged, rows_of


class WithoutWords(unittest.TestCase):
    """Point 5: a sort can be without words where it has a tree without words."""

    def tells(self, sorts, *texts):
        self.assertEqual(ask_unchanged(self, empty_sorts, rows_of(*texts)), sorts)

    def test_the_example(self):
        self.tells(["B"], *EXAMPLE)
        self.tells(["B"], *EXAMPLE, "B > b")

    def test_one_row_alone(self):
        self.tells(["S"], "S >")
        self.tells([], "S > a")

    def test_a_row_with_nothing_on_its_right(self):
        self.tells(["S"], "S > a", "S >")

    def test_only_by_way_of_other_sorts(self):
        self.tells(["A", "B", "S"], "S > A B", "A > B B", "B >")
        self.tells(["A", "B", "C", "S"], "S > a", "S > A", "A > B", "B > C", "C > c", "C >")

    def test_each_sign_of_the_row_must_be_so(self):
        self.tells(["A"], "S > A B", "A >", "B > b")
        self.tells(["A"], "S > A a A", "A >")
        self.tells(["A"], "S > B A", "A >", "B > A b", "B > b A")

    def test_a_sort_that_stands_in_its_own_row(self):
        self.tells([], "S > S S", "S > a")
        self.tells(["S"], "S > S S", "S > a", "S >")

    def test_in_order(self):
        self.tells(["A", "B", "a", "b"], "b > a B A", "B >", "a >", "A >")

    def test_fourteen_rows_and_fourteen_signs(self):
        self.tells(list("ABCDEFGHIJKLM"), *WIDE_EMPTY)
        self.tells([], *WIDE_FULL)

    def test_somewhat_beyond_the_bounds(self):
        self.tells(["T"], *BEYOND)


class Beginning(unittest.TestCase):
    """Point 5: a word can begin a sort where one of its trees has it as its first word."""

    def tells(self, words, *texts):
        answer = ask_unchanged(self, words_to_begin, rows_of(*texts))
        self.assertEqual(list(answer.items()), words)

    def test_the_example(self):
        self.tells([("B", ["b"]), ("S", ["a"])], *EXAMPLE)
        self.tells([("B", ["b"]), ("S", ["a"])], *EXAMPLE, "B > b")

    def test_one_row_alone(self):
        self.tells([("S", [])], "S >")
        self.tells([("S", ["a"])], "S > a b")

    def test_not_the_end(self):
        self.tells([("A", []), ("S", [])], "S > A A", "A >")

    def test_by_way_of_another_sort(self):
        self.tells([("A", ["a", "b"]), ("S", ["a", "b"])], "S > A c", "A > b", "A > a S")

    def test_behind_parts_that_can_be_without_words(self):
        self.tells([("A", ["a"]), ("B", ["b"]), ("S", ["a", "b", "c"])],
                   "S > A B c d", "A > a", "A >", "B > b", "B >")

    def test_not_behind_parts_that_have_words(self):
        self.tells([("A", ["a"]), ("B", ["b"]), ("S", ["a"])], "S > A B", "A > a", "B > b", "B >")
        self.tells([("A", ["a"]), ("S", ["b"])], "S > b A", "A > a", "A >")

    def test_rows_that_begin_with_their_own_sort(self):
        self.tells([("S", ["b"])], "S > S a", "S > b")
        self.tells([("S", ["a"])], "S > S a", "S >")
        self.tells([("A", ["b", "c"]), ("S", ["b", "c"])], "S > A b", "A > S a", "A >", "S > c")

    def test_sorts_in_order_and_words_in_order(self):
        self.tells([("B", ["Z", "a", "ab"]), ("s", ["Y", "Z", "a", "ab"])],
                   "s > B", "B > ab", "B > a", "B > Z", "s > Y", "B > a a")

    def test_fourteen_rows_and_fourteen_signs(self):
        self.tells([(sort, ["z"]) for sort in "ABCDEFGHIJKLM"], *WIDE_EMPTY)
        self.tells([(sort, ["y", "z"]) for sort in "ABCDEFGHIJKLM"], *WIDE_FULL)

    def test_somewhat_beyond_the_bounds(self):
        self.tells([("S", list("abcdefghijklmnopqr")), ("T", [LONG])], *BEYOND)


class Refusing(unittest.TestCase):
    """Point 4 goes ahead of point 5."""

    def test_rows_that_are_refused(self):
        for ask in (empty_sorts, words_to_begin):
            for kind, texts in ((NoEnd, EXAMPLE + ("B > c C", "C > c C")), (Unused, EXAMPLE + ("C > a",)),
                                (NoEnd, ("S > a", "A > A")), (NoEnd, ("S > S",))):
                with self.assertRaises(kind):
                    ask_unchanged(self, ask, rows_of(*texts))


if __name__ == "__main__":
    unittest.main()
