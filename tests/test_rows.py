import copy
import unittest

from nextword.errors import NoEnd, Unused
from nextword.rows import check_rows, first_sort, is_sign, is_tree_of, is_tree_of_line, sorts_of, tree_words, words_of
from tests.helper import BEYOND, EXAMPLE, LONG, WIDE, WIDE_EMPTY, WIDE_FULL, ask_unchanged, rows_of


class Signs(unittest.TestCase):
    """Point 2: signs, sorts and words, the first sort."""

    def test_signs(self):
        for text in ("a", "z", "A", "Z", "Sort", "aBcD", "x" * 30, "x" * 300):
            self.assertTrue(is_sign(text), text)

    def test_no_signs(self):
        for text in ("", " ", "1", "a1", "1a", "a b", " a", "a ", ">", "a>", "_", "@", "[", "`", "{", "a\n", "\u00e9",
                     "\u0430"):
            self.assertFalse(is_sign(text), text)

    def test_sorts_are_the_lefts_in_order(self):
        self.assertEqual(sorts_of(rows_of(*EXAMPLE)), ["B", "S"])
        self.assertEqual(sorts_of(rows_of("s > Z", "b > a s", "B > b", "s >")), ["B", "b", "s"])

    def test_all_other_signs_are_words(self):
        self.assertEqual(words_of(rows_of(*EXAMPLE)), ["a", "b"])
        self.assertEqual(words_of(rows_of("s > Z a Z", "a > Y s")), ["Y", "Z"])

    def test_a_left_is_a_sort_wherever_its_row_stands(self):
        self.assertEqual(words_of(rows_of("S > a b", "a > c", "b >")), ["c"])

    def test_the_first_sort_is_the_left_of_row_0(self):
        self.assertEqual(first_sort(rows_of("S > A", "A > a")), "S")
        self.assertEqual(first_sort(rows_of("B > A", "A > a")), "B")

    def test_one_row_alone(self):
        self.assertEqual(sorts_of(rows_of("S >")), ["S"])
        self.assertEqual(words_of(rows_of("S >")), [])
        self.assertEqual(words_of(rows_of("S > a")), ["a"])

    def test_nothing_is_changed(self):
        for ask in (sorts_of, words_of, first_sort):
            ask_unchanged(self, ask, rows_of("S > b A b", "A > S", "A >"))


class Trees(unittest.TestCase):
    """Point 3: trees, and the words of a tree."""

    rows = rows_of("S > a B", "B > b B", "B >", "S > B c B")
    tree = ("S", 0, ["a", ("B", 1, ["b", ("B", 2, [])])])

    def test_words_from_the_left_to_the_right(self):
        self.assertEqual(tree_words(self.tree), ["a", "b"])
        both = ("S", 3, [("B", 1, ["b", ("B", 2, [])]), "c", ("B", 1, ["b", ("B", 1, ["b", ("B", 2, [])])])])
        self.assertEqual(tree_words(both), ["b", "c", "b", "b"])

    def test_a_tree_without_words(self):
        self.assertEqual(tree_words(("B", 2, [])), [])
        self.assertEqual(tree_words(("S", 0, [("B", 1, []), ("B", 2, [("B", 1, [])])])), [])

    def test_trees_of_a_sort(self):
        self.assertTrue(is_tree_of(self.rows, "S", self.tree))
        self.assertTrue(is_tree_of(self.rows, "B", self.tree[2][1]))
        self.assertTrue(is_tree_of(self.rows, "B", ("B", 2, [])))

    def test_what_is_no_tree(self):
        wrong = [
            "a",
            ("B", 2, []),
            ("S", 2, []),
            ("B", 0, ["a", ("B", 2, [])]),
            ("S", 4, []),
            ("S", -1, [("B", 2, []), "c", ("B", 2, [])]),
            ("S", 0, ["a"]),
            ("S", 0, ["a", ("B", 2, []), "a"]),
            ("S", 0, ["b", ("B", 2, [])]),
            ("S", 0, ["a", "B"]),
            ("S", 0, [("B", 2, []), ("B", 2, [])]),
            ("S", 0, ["a", ("S", 0, ["a", ("B", 2, [])])]),
            ("S", 0, ["a", ("B", 1, ["b", ("B", 2, ["b"])])]),
            ("S", 3, [("B", 2, []), "c", ("B", 1, ["a", ("B", 2, [])])]),
        ]
        for tree in wrong:
            self.assertFalse(is_tree_of(self.rows, "S", tree), tree)

    def test_a_tree_of_a_line_is_one_of_the_first_sort(self):
        self.assertTrue(is_tree_of_line(self.rows, self.tree, ["a", "b"]))
        self.assertFalse(is_tree_of_line(self.rows, self.tree, ["a"]))
        self.assertFalse(is_tree_of_line(self.rows, self.tree, ["b", "a"]))
        self.assertFalse(is_tree_of_line(self.rows, ("B", 2, []), []))
        self.assertTrue(is_tree_of_line(rows_of("S >"), ("S", 0, []), []))

    def test_a_long_line_to_the_right_and_to_the_left(self):
        right = ("S", 1, [])
        left = ("S", 1, [])
        words = []
        for at in range(250):
            word = "b" if at % 3 else "a"
            right = ("S", 2 if word == "a" else 0, [word, right])
            left = ("S", 2 if word == "a" else 0, [left, word])
            words.append(word)
        self.assertTrue(is_tree_of_line(rows_of("S > b S", "S >", "S > a S"), right, words[::-1]))
        self.assertTrue(is_tree_of_line(rows_of("S > S b", "S >", "S > S a"), left, words))

    def test_trees_far_deeper_than_calls_nest(self):
        letters = "SABCDEFGHIJK"
        rows = rows_of(*[f"{letters[at]} > {letters[at + 1]}" for at in range(11)], "K > a S b", "K > c")
        tree = ("K", 12, ["c"])
        for _ in range(300):
            for at in range(10, -1, -1):
                tree = (letters[at], at, [tree])
            tree = ("K", 11, ["a", tree, "b"])
        for at in range(10, -1, -1):
            tree = (letters[at], at, [tree])
        self.assertTrue(is_tree_of_line(rows, tree, ["a"] * 300 + ["c"] + ["b"] * 300))

    def test_nothing_is_changed(self):
        before = copy.deepcopy(self.tree)
        line = ["a", "b"]
        ask_unchanged(self, lambda rows: is_tree_of_line(rows, self.tree, line), self.rows)
        tree_words(self.tree)
        self.assertEqual(self.tree, before)
        self.assertEqual(line, ["a", "b"])


class Refused(unittest.TestCase):
    """Point 4: NoEnd, else Unused."""

    def refuses(self, kind, *texts):
        with self.assertRaises(kind) as caught:
            ask_unchanged(self, check_rows, rows_of(*texts))
        self.assertIs(caught.exception.__class__, kind, texts)

    def takes(self, *texts):
        self.assertIsNone(ask_unchanged(self, check_rows, rows_of(*texts)))

    def test_the_example(self):
        self.takes(*EXAMPLE)
        self.takes(*EXAMPLE, "B > b")
        self.refuses(Unused, *EXAMPLE, "C > a")
        self.refuses(NoEnd, *EXAMPLE, "B > c C", "C > c C")

    def test_one_row_alone(self):
        self.takes("S >")
        self.takes("S > a")
        self.takes("S > a a")
        self.refuses(NoEnd, "S > S")
        self.refuses(NoEnd, "S > a S")
        self.refuses(NoEnd, "S > S a")

    def test_no_tree_of_some_sort(self):
        self.refuses(NoEnd, "S > A", "A > S")
        self.refuses(NoEnd, "S > A", "A > B", "B > C", "C > A a")
        self.refuses(NoEnd, "S > a", "S > A", "A > a A")
        self.refuses(NoEnd, "S >", "S > a A B", "A > a", "B > A B")

    def test_the_first_sort_alone_has_no_tree(self):
        self.refuses(NoEnd, "S > A S", "A > a")

    def test_a_tree_by_way_of_later_rows(self):
        self.takes("S > A", "A > B", "B > C", "C > c")
        self.takes("S > S A", "A > A B", "B > S", "S > A A", "A > b")

    def test_a_sort_in_no_tree_of_the_first_sort(self):
        self.refuses(Unused, "S > a", "A > a")
        self.refuses(Unused, "S > a", "A > S")
        self.refuses(Unused, "S >", "A > B", "B > A", "A >")
        self.refuses(Unused, "S > A", "A > a", "B > S A", "C >")

    def test_the_first_sort_is_in_its_own_trees(self):
        self.takes("S > A", "A > a")
        self.refuses(Unused, "A > a", "S > A")

    def test_both_at_once_is_no_end(self):
        self.refuses(NoEnd, "S > a", "A > A")
        self.refuses(NoEnd, "S > a", "A > a", "B > b B")
        self.refuses(NoEnd, "S > S", "A > a")
        self.refuses(NoEnd, *EXAMPLE, "A > a", "C > c C")

    def test_fourteen_rows_and_fourteen_signs(self):
        self.takes(*WIDE_EMPTY)
        self.takes(*WIDE_FULL)
        self.refuses(NoEnd, *WIDE, "M > z M", "M > A")
        self.refuses(Unused, "Z > A", *WIDE[1:], "M > z", "A >")

    def test_somewhat_beyond_the_bounds(self):
        self.takes(*BEYOND)
        self.refuses(Unused, *BEYOND, f"U > {LONG}")
        self.refuses(NoEnd, *BEYOND, f"T > {LONG}x", f"{LONG}x > {LONG}x")


if __name__ == "__main__":
    unittest.main()
