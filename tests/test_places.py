import unittest

from nextword.errors import NoEnd, Unused
from nextword.places import words_behind, words_to_use_rows
from tests.helper import BEYOND, EXAMPLE, LONG, WIDE_EMPTY, WIDE_FULL, ask_unchanged, rows_of


class Behind(unittest.TestCase):
    """Point 6: the words, or the end, that can come behind a sort."""

    def tells(self, words, *texts):
        answer = ask_unchanged(self, words_behind, rows_of(*texts))
        self.assertEqual(list(answer.items()), words)

    def test_the_example(self):
        self.tells([("B", [""]), ("S", [""])], *EXAMPLE)
        self.tells([("B", [""]), ("S", [""])], *EXAMPLE, "B > b")

    def test_one_row_alone(self):
        self.tells([("S", [""])], "S >")
        self.tells([("S", [""])], "S > a")

    def test_a_word_straight_behind(self):
        self.tells([("A", ["b"]), ("S", [""])], "S > A b", "A > a")
        self.tells([("A", ["b", "c"]), ("S", [""])], "S > A b A c", "A > a")

    def test_a_word_that_begins_the_sort_behind(self):
        self.tells([("A", ["b", "c"]), ("B", [""]), ("S", [""])], "S > A B", "A > a", "B > c", "B > b a")

    def test_not_a_word_further_on(self):
        self.tells([("A", ["b"]), ("B", ["c"]), ("S", [""])], "S > A B c", "A > a", "B > b")

    def test_only_by_way_of_parts_that_can_be_without_words(self):
        self.tells([("A", ["b", "c", "d"]), ("B", ["c", "d"]), ("C", ["d"]), ("S", [""])],
                   "S > A B C d", "A > a", "B > b", "B >", "C > c", "C >")
        self.tells([("A", ["d"]), ("B", ["d"]), ("S", [""])], "S > A B B d", "A > a", "B >")

    def test_the_end_behind_a_sort_at_the_end_of_a_line(self):
        self.tells([("A", [""]), ("S", [""])], "S > a A", "A > a")
        self.tells([("A", ["", "b"]), ("B", [""]), ("S", [""])], "S > A B", "A > a", "B > b", "B >")
        self.tells([("A", ["b"]), ("S", [""])], "S > A b", "A > a")

    def test_what_comes_behind_the_left(self):
        self.tells([("A", ["b"]), ("B", ["b"]), ("S", [""])], "S > A b", "A > a B", "B > c")
        self.tells([("A", ["", "b"]), ("B", ["", "b"]), ("S", ["", "b"])], "S > A", "A > a B", "B > c", "B > S b")

    def test_not_what_comes_behind_a_part_of_the_left(self):
        self.tells([("A", ["", "b"]), ("B", ["c"]), ("S", [""])], "S > A", "S > A b", "A > B c", "B > a")

    def test_the_first_sort_within_a_line(self):
        self.tells([("S", ["", "b"])], "S > a S b", "S >")

    def test_rows_that_begin_with_their_own_sort(self):
        self.tells([("S", ["", "a"])], "S > S a", "S > b")
        self.tells([("S", ["", "a"])], "S > S S", "S > a")

    def test_the_end_comes_first_and_the_words_in_order(self):
        self.tells([("S", ["", "A", "Z", "a", "ab", "b"])], "S > S ab", "S > S b", "S > S a", "S > S Z", "S > S A",
                   "S >")

    def test_fourteen_rows_and_fourteen_signs(self):
        self.tells([("A", [""])] + [(sort, ["", "z"]) for sort in "BCDEFGHIJKLM"], *WIDE_EMPTY)
        self.tells([("A", [""])] + [(sort, ["", "y", "z"]) for sort in "BCDEFGHIJKLM"], *WIDE_FULL)

    def test_somewhat_beyond_the_bounds(self):
        self.tells([("S", [""]), ("T", ["", LONG])], *BEYOND)


class Used(unittest.TestCase):
    """Point 7: where a row can be used."""

    def tells(self, words, *texts):
        self.assertEqual(ask_unchanged(self, words_to_use_rows, rows_of(*texts)), words)

    def test_the_example(self):
        self.tells([["a"], ["b"], [""]], *EXAMPLE)
        self.tells([["a"], ["b"], [""], ["b"]], *EXAMPLE, "B > b")

    def test_one_row_alone(self):
        self.tells([[""]], "S >")
        self.tells([["a"]], "S > a b")

    def test_the_right_can_begin_with_the_word(self):
        self.tells([["a", "c"], ["a"], ["c"], ["b"]], "S > A B", "A > a", "A > c B", "B > b")

    def test_a_row_with_nothing_on_its_right(self):
        self.tells([["a", "b"], ["a"], ["b"]], "S > A b", "A > a", "A >")
        self.tells([["", "a"], ["a"], [""]], "S > A", "A > a", "A >")

    def test_a_right_that_can_be_without_words(self):
        self.tells([["b", "c", "d"], ["b", "c", "d"], ["b"], ["c", "d"], ["c"], ["d"]],
                   "S > A d", "A > B C", "B > b", "B >", "C > c", "C >")

    def test_behind_parts_that_can_be_without_words(self):
        self.tells([["a", "b"], ["b"], ["a"]], "S > A a", "A > b", "A >")

    def test_a_right_that_has_words_is_not_used_by_what_comes_behind(self):
        self.tells([["a"], ["a"], ["b"]], "S > A B", "A > a", "B > b")

    def test_the_end(self):
        self.tells([["", "a"], ["a"], [""], [""]], "S > A B", "A > a", "A >", "B >")

    def test_rows_that_begin_with_their_own_sort(self):
        self.tells([["b"], ["b"]], "S > S a", "S > b")
        self.tells([["a"], ["", "a"]], "S > S a", "S >")

    def test_rows_that_clash_are_told_all_the_same(self):
        self.tells([["", "a"], ["", "a"], ["a"], ["", "a"]], "S > A", "S > A A", "A > a", "A >")

    def test_fourteen_rows_and_fourteen_signs(self):
        self.tells([["", "z"]] * 12 + [["z"], ["", "z"]], *WIDE_EMPTY)
        self.tells([["y", "z"]] * 12 + [["z"], ["y"]], *WIDE_FULL)

    def test_somewhat_beyond_the_bounds(self):
        self.tells([[letter] for letter in "abcdefghijklmnopqr"] + [[LONG], ["", LONG]], *BEYOND)


class Refusing(unittest.TestCase):
    """Point 4 goes ahead of points 6 and 7."""

    def test_rows_that_are_refused(self):
        for ask in (words_behind, words_to_use_rows):
            for kind, texts in ((NoEnd, EXAMPLE + ("B > c C", "C > c C")), (Unused, EXAMPLE + ("C > a",)),
                                (NoEnd, ("S > a", "A > A")), (NoEnd, ("S > S",))):
                with self.assertRaises(kind):
                    ask_unchanged(self, ask, rows_of(*texts))


if __name__ == "__main__":
    unittest.main()
