import unittest

from nextword.errors import NoEnd, Unused
from nextword.grammar import behinds, empties, firsts
from tests.helper import BEYOND, EXAMPLE, LONG, WIDE_EMPTY, WIDE_FULL, ask_unchanged, rows_of


class Told(unittest.TestCase):
    """Points 5 and 6, as lists in order."""

    def tells(self, texts, empty, first, behind):
        rows = rows_of(*texts)
        self.assertEqual(ask_unchanged(self, empties, rows), empty)
        self.assertEqual(ask_unchanged(self, firsts, rows), first)
        self.assertEqual(ask_unchanged(self, behinds, rows), behind)

    def test_the_example(self):
        self.tells(EXAMPLE, ["B"], [("B", ["b"]), ("S", ["a"])], [("B", [""]), ("S", [""])])

    def test_kinds(self):
        rows = rows_of(*EXAMPLE)
        self.assertIs(empties(rows).__class__, list)
        for ask in (firsts, behinds):
            answer = ask(rows)
            self.assertIs(answer.__class__, list)
            for pair in answer:
                self.assertEqual([pair.__class__, pair[0].__class__, pair[1].__class__], [tuple, str, list])

    def test_one_row_alone(self):
        self.tells(["S >"], ["S"], [("S", [])], [("S", [""])])
        self.tells(["S > a"], [], [("S", ["a"])], [("S", [""])])

    def test_a_sort_that_leads_to_itself_at_the_left(self):
        self.tells(["S > S a", "S > b"], [], [("S", ["b"])], [("S", ["", "a"])])
        self.tells(["S > S a", "S >"], ["S"], [("S", ["a"])], [("S", ["", "a"])])
        self.tells(["S > A b", "A > S a", "A >"], ["A"], [("A", ["b"]), ("S", ["b"])],
                   [("A", ["b"]), ("S", ["", "a"])])

    def test_a_sort_that_leads_to_itself_at_the_right(self):
        self.tells(["S > a S", "S >"], ["S"], [("S", ["a"])], [("S", [""])])
        self.tells(["S > A c", "A > a B", "B > b A", "B >"], ["B"], [("A", ["a"]), ("B", ["b"]), ("S", ["a"])],
                   [("A", ["c"]), ("B", ["c"]), ("S", [""])])

    def test_a_sort_that_leads_to_itself_alone(self):
        self.tells(["S > S", "S > a", "S >"], ["S"], [("S", ["a"])], [("S", [""])])
        self.tells(["S > S S", "S > a"], [], [("S", ["a"])], [("S", ["", "a"])])

    def test_sorts_without_words_first_amid_and_last(self):
        self.tells(["S > A b A c A", "A >"], ["A"], [("A", []), ("S", ["b"])], [("A", ["", "b", "c"]), ("S", [""])])
        self.tells(["S > A B A C A", "A > a", "A >", "B > b", "C > c", "C >"], ["A", "C"],
                   [("A", ["a"]), ("B", ["b"]), ("C", ["c"]), ("S", ["a", "b"])],
                   [("A", ["", "a", "b", "c"]), ("B", ["", "a", "c"]), ("C", ["", "a"]), ("S", [""])])

    def test_all_sorts_of_a_right_without_words(self):
        self.tells(["S > d A", "A > B C", "B >", "C > B B", "C > c"], ["A", "B", "C"],
                   [("A", ["c"]), ("B", []), ("C", ["c"]), ("S", ["d"])],
                   [("A", [""]), ("B", ["", "c"]), ("C", [""]), ("S", [""])])

    def test_the_end_behind_through_several_rows(self):
        self.tells(["S > a A", "A > b B C", "B > c D", "C >", "D > d"], ["C"],
                   [("A", ["b"]), ("B", ["c"]), ("C", []), ("D", ["d"]), ("S", ["a"])],
                   [("A", [""]), ("B", [""]), ("C", [""]), ("D", [""]), ("S", [""])])

    def test_upper_and_lower_case_in_order(self):
        self.tells(["s > B a", "B > b", "B > Z s", "B >"], ["B"], [("B", ["Z", "b"]), ("s", ["Z", "a", "b"])],
                   [("B", ["a"]), ("s", ["", "a"])])

    def test_fourteen_rows_and_fourteen_signs(self):
        self.tells(WIDE_EMPTY, list("ABCDEFGHIJKLM"), [(sort, ["z"]) for sort in "ABCDEFGHIJKLM"],
                   [("A", [""])] + [(sort, ["", "z"]) for sort in "BCDEFGHIJKLM"])
        self.tells(WIDE_FULL, [], [(sort, ["y", "z"]) for sort in "ABCDEFGHIJKLM"],
                   [("A", [""])] + [(sort, ["", "y", "z"]) for sort in "BCDEFGHIJKLM"])

    def test_somewhat_beyond_the_bounds(self):
        self.tells(BEYOND, ["T"], [("S", list("abcdefghijklmnopqr")), ("T", [LONG])], [("S", [""]), ("T", ["", LONG])])

    def test_the_answers_are_not_kept(self):
        rows = rows_of(*EXAMPLE)
        for ask in (empties, firsts, behinds):
            before = repr(ask(rows))
            ask(rows).clear()
            for pair in ask(rows):
                if isinstance(pair, tuple):
                    pair[1].clear()
            self.assertEqual(repr(ask(rows)), before)


class Refusing(unittest.TestCase):
    """Point 4 goes ahead of all else."""

    def refuses(self, kind, *texts):
        for ask in (empties, firsts, behinds):
            with self.assertRaises(kind) as caught:
                ask_unchanged(self, ask, rows_of(*texts))
            self.assertIs(caught.exception.__class__, kind)

    def test_no_end(self):
        self.refuses(NoEnd, *EXAMPLE, "B > c C", "C > c C")
        self.refuses(NoEnd, "S > S")
        self.refuses(NoEnd, "S > a", "S > A", "A > B", "B > A")

    def test_unused(self):
        self.refuses(Unused, *EXAMPLE, "C > a")
        self.refuses(Unused, "S > a", "A > S")

    def test_no_end_ahead_of_unused(self):
        self.refuses(NoEnd, *EXAMPLE, "C > a", "D > D")
        self.refuses(NoEnd, "S > a", "A > A")
        self.refuses(NoEnd, "S > a", "S > B b", "B > B", "A > a")


if __name__ == "__main__":
    unittest.main()
