import unittest

from nextword.errors import NoEnd, Unused
from nextword.table import table_of
from tests.helper import BEYOND, EXAMPLE, LONG, WIDE, WIDE_EMPTY, WIDE_FULL, ask_unchanged, rows_of, shows_use


class Table(unittest.TestCase):
    """Point 8: an entry for each sort and word where just one row can be used, in order."""

    def tells(self, entries, *texts):
        self.assertEqual(ask_unchanged(self, table_of, rows_of(*texts)), ("table", entries))

    def test_the_example(self):
        self.tells([("B", "", 2), ("B", "b", 1), ("S", "a", 0)], *EXAMPLE)

    def test_kinds(self):
        answer = table_of(rows_of(*EXAMPLE))
        self.assertEqual([answer.__class__, answer[1].__class__], [tuple, list])
        for entry in answer[1]:
            self.assertEqual([kind.__class__ for kind in (entry,) + entry], [tuple, str, str, int])

    def test_one_row_alone(self):
        self.tells([("S", "", 0)], "S >")
        self.tells([("S", "a", 0)], "S > a a")

    def test_sorts_and_words_of_upper_and_lower_case(self):
        self.tells([("A", "Z", 1), ("A", "b", 2), ("B", "", 4), ("B", "Y", 3), ("a", "X", 6), ("a", "z", 5),
                    ("s", "Z", 0), ("s", "b", 0)],
                   "s > A a B", "A > Z", "A > b", "B > Y", "B >", "a > z", "a > X")

    def test_signs_that_begin_alike(self):
        self.tells([("A", "b", 2), ("A", "ba", 1), ("AA", "", 4), ("AA", "b", 3), ("S", "b", 0), ("S", "ba", 0)],
                   "S > A AA", "A > ba", "A > b", "AA > b", "AA >")

    def test_the_end_first(self):
        self.tells([("S", "", 2), ("S", "A", 1), ("S", "a", 0)], "S > a S", "S > A", "S >")

    def test_a_row_used_by_what_comes_behind(self):
        self.tells([("A", "a", 1), ("A", "b", 2), ("S", "a", 0), ("S", "b", 0)], "S > A b", "A > a", "A >")
        self.tells([("A", "", 2), ("A", "a", 1), ("A", "b", 2), ("B", "", 4), ("B", "b", 3),
                    ("S", "", 0), ("S", "a", 0), ("S", "b", 0)], "S > A B", "A > a", "A >", "B > b", "B >")

    def test_a_right_that_can_be_without_words(self):
        self.tells([("A", "", 1), ("A", "b", 1), ("B", "", 3), ("B", "b", 2), ("S", "", 0), ("S", "b", 0)],
                   "S > A", "A > B", "B > b", "B >")

    def test_fourteen_rows_and_fourteen_signs(self):
        self.tells([(sort, word, number) for number, sort in enumerate("ABCDEFGHIJKL") for word in "yz"]
                   + [("M", "y", 13), ("M", "z", 12)], *WIDE_FULL)
        self.tells([(sort, "", number) for number, sort in enumerate("ABCDEFGHIJKLM")], *WIDE, "M >")

    def test_somewhat_beyond_the_bounds(self):
        self.tells([("S", letter, number) for number, letter in enumerate("abcdefghijklmnopqr")] + [("T", LONG, 18)],
                   *BEYOND[:-1])


class Clashing(unittest.TestCase):
    """Point 9: the first sort and word, and the first two rows, each shown by a tree of a line."""

    def clash(self, sort, word, one, other, *texts):
        rows = rows_of(*texts)
        answer = ask_unchanged(self, table_of, rows)
        self.assertEqual((answer.__class__, len(answer)), (tuple, 5))
        self.assertEqual(answer[:3], ("clash", sort, word))
        shows_use(self, rows, answer[3], one, word)
        shows_use(self, rows, answer[4], other, word)
        return answer

    def test_the_example(self):
        answer = self.clash("B", "b", 1, 3, *EXAMPLE, "B > b")
        self.assertEqual(answer[3:], (
            (1, ("S", 0, ["a", ("B", 1, ["b", ("B", 2, [])])]), [1]),
            (3, ("S", 0, ["a", ("B", 3, ["b"])]), [1]),
        ))

    def test_two_rows_that_begin_with_one_word(self):
        self.clash("S", "a", 0, 1, "S > a", "S > a b")
        self.clash("A", "a", 1, 2, "S > b A", "A > a", "A > a A")

    def test_two_rows_that_begin_with_one_word_by_way_of_sorts(self):
        self.clash("S", "a", 0, 1, "S > A b", "S > B", "A > a", "B > C c", "C > a")
        self.clash("S", "a", 0, 1, "S > A b", "S > C B", "A > a", "B > a", "C > c", "C >")

    def test_a_row_without_words_against_what_comes_behind(self):
        self.clash("A", "a", 1, 2, "S > A a", "A > a", "A >")
        self.clash("A", "a", 1, 2, "S > A a", "A >", "A > a")
        self.clash("A", "a", 1, 2, "S > A B", "A > a", "A >", "B > a")
        self.clash("A", "a", 1, 2, "S > A B a", "A > a", "A >", "B > b", "B >")

    def test_two_rows_without_words(self):
        self.clash("A", "", 1, 2, "S > A", "A > B", "A >", "B >")
        self.clash("A", "b", 1, 2, "S > A b", "A >", "A > B", "B >")
        self.clash("A", "", 1, 3, "S > a A", "A > B B", "A > c", "A > C", "B >", "C >")

    def test_the_end_ahead_of_words(self):
        self.clash("A", "", 1, 2, "S > A", "A > B", "A > C", "B > Z", "B >", "C > Z", "C >")
        self.clash("S", "", 0, 1, "S > A", "S > B", "A > a", "A >", "B > a", "B >")

    def test_upper_case_ahead_of_lower_case(self):
        self.clash("S", "B", 2, 3, "S > a", "S > a a", "S > B", "S > B a")
        self.clash("B", "c", 3, 4, "s > a B", "a > b", "a > b b", "B > c", "B > c c")

    def test_the_first_two_rows_of_several(self):
        self.clash("S", "a", 1, 2, "S > b", "S > a", "S > a a", "S > a b", "S > a c")
        self.clash("S", "a", 0, 3, "S > a", "S > b", "S > c", "S > A", "A > a")

    def test_the_first_word_at_which_some_clash(self):
        self.clash("S", "b", 2, 4, "S > c", "S > c c", "S > b", "S > a", "S > b b")

    def test_rows_that_lead_to_themselves(self):
        self.clash("S", "b", 0, 1, "S > S a", "S > b")
        self.clash("S", "a", 0, 1, "S > S a", "S >")
        self.clash("S", "", 0, 1, "S > S", "S >")
        self.clash("S", "a", 0, 1, "S > S S", "S > a")
        self.clash("S", "", 0, 1, "S > S S S", "S >")
        self.clash("A", "", 1, 2, "S > A", "A > S", "A >")

    def test_the_first_sort_amid_the_line(self):
        self.clash("S", "b", 0, 1, "S > b a S b", "S >")
        self.clash("S", "a", 0, 1, "S > a S a", "S >")
        self.clash("S", "a", 0, 1, "S > a A", "S >", "A > S a")

    def test_a_word_that_comes_behind_through_several_rows(self):
        self.clash("D", "e", 4, 5, "S > A B e", "A > a C", "B >", "C > c D B", "D > e", "D >")

    def test_the_end_behind_through_several_rows(self):
        self.clash("D", "", 4, 5, "S > A B", "A > a C", "B >", "C > c D B", "D > E", "D >", "E > e", "E >")

    def test_a_part_that_comes_only_behind_large_ones(self):
        self.clash("D", "d", 4, 5, "S > A A D d", "A > B B B", "B > C C C", "C > c c c", "D > d", "D >")

    def test_a_deep_part(self):
        self.clash("M", "m", 12, 13, "A > B B", "B > a C", "C > D c", "D > E", "E > F", "F > e G e", "G > H", "H > I",
                   "I > J", "J > K", "K > L", "L > M m", "M > m", "M >")

    def test_more_parts_than_could_be_gone_through(self):
        self.clash("M", "z", 12, 13, *WIDE_EMPTY)
        self.clash("M", "", 12, 13, *WIDE, "M > N", "M >", "N >")
        self.clash("M", "z", 12, 13, *WIDE, "M > z", "M > z y")

    def test_somewhat_beyond_the_bounds(self):
        self.clash("T", LONG, 18, 19, *BEYOND)

    def test_the_answer_holds_no_list_of_the_rows(self):
        rows = rows_of("S > a", "S > a b", "S >")
        for shown in table_of(rows)[3:]:
            shown[1][2].clear()
        self.assertEqual(rows, rows_of("S > a", "S > a b", "S >"))

    def test_the_smallest_trees(self):
        """So that trees stay such as can be gone through, where there are such."""
        answer = self.clash("A", "a", 1, 2, "S > A B", "A > a", "A > a B", *[text for text in WIDE if text[0] > "A"],
                            "M > m", "B > b")
        self.assertEqual(answer[3:], (
            (1, ("S", 0, [("A", 1, ["a"]), ("B", 15, ["b"])]), [0]),
            (2, ("S", 0, [("A", 2, ["a", ("B", 15, ["b"])]), ("B", 15, ["b"])]), [0]),
        ))


class Refusing(unittest.TestCase):
    """Point 4 goes ahead of all else."""

    def refuses(self, kind, *texts):
        with self.assertRaises(kind) as caught:
            ask_unchanged(self, table_of, rows_of(*texts))
        self.assertIs(caught.exception.__class__, kind)

    def test_the_example(self):
        self.refuses(Unused, *EXAMPLE, "C > a")
        self.refuses(NoEnd, *EXAMPLE, "B > c C", "C > c C")

    def test_no_end_ahead_of_unused(self):
        self.refuses(NoEnd, *EXAMPLE, "C > a", "D > D")

    def test_ahead_of_a_clash(self):
        self.refuses(NoEnd, "S > a", "S > a b", "S > A", "A > A")
        self.refuses(Unused, "S > a", "S > a b", "A > a")


if __name__ == "__main__":
    unittest.main()
