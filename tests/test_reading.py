import itertools
import unittest

from nextword.errors import Clash, NoEnd, Unused
from nextword.reading import read
from nextword.rows import tree_words
from tests.helper import (BEYOND, EXAMPLE, LONG, WIDE, answer_by_trees, ask_unchanged, beginnings_up_to, first_words,
                          rows_of, trees_up_to)

# Rows with a table, each with something of its own.
SMALL = (
    EXAMPLE,
    ("S >",),
    ("S > a",),
    ("S > a S b", "S >"),
    ("S > A B", "A > a A", "A >", "B > b B", "B >"),
    ("S > A B A c", "A >", "B > b", "B >"),
    # What can come behind B in one line can't in the other.
    ("S > a B c", "S > b B d", "B > x", "B >"),
    ("S > a B", "S > b B c", "B > C C", "C >"),
    # Sums and products in brackets.
    ("E > T R", "R > p T R", "R >", "T > x", "T > l E r"),
    ("S > a S T", "S > c", "T > b T d", "T > e"),
    ("S > A b", "A > B", "B > C", "C > c A", "C >"),
    ("list > item rest", "item > a", "item > b list c", "rest > d list", "rest >"),
    ("s > A b B", "A > B", "A > Z", "B > Y A", "B > X"),
)

# Each word leads down through twelve sorts, so that trees are far deeper than their lines are long.
DOWN = tuple(f"{'ABCDEFGHIJKL'[at]} > {'ABCDEFGHIJKL'[at + 1]}" for at in range(11)) + ("L > a M", "M > A", "M >")


class Reading(unittest.TestCase):
    def asks(self, rows, line):
        """What is read, after a look at whatever is told: that its kinds are right, and that it is so."""
        answer = ask_unchanged(self, read, rows, line)
        self.assertIs(answer.__class__, tuple)
        if answer[0] == "tree":
            self.assertEqual(len(answer), 2)
            self.is_read(rows, line, answer[1])
            return answer
        self.assertEqual((answer[0], len(answer), answer[1].__class__, answer[2].__class__), ("stuck", 3, int, list))
        words = [pair[0] for pair in answer[2]]
        self.assertEqual(words, sorted(set(words)))
        for pair in answer[2]:
            self.assertEqual((pair.__class__, len(pair), pair[1].__class__), (tuple, 2, list))
            self.goes_on(rows, line[:answer[1]], pair[0], pair[1])
        return answer

    def is_read(self, rows, line, tree):
        self.assertEqual(tree[0], rows[0][0])
        first_words(self, rows, tree)
        self.assertEqual(tree_words(tree), line)

    def goes_on(self, rows, ahead, word, line):
        self.assertEqual(line[:len(ahead)], ahead)
        self.assertEqual((line + [""])[len(ahead)], word)
        answer = read(rows, line)
        self.assertEqual(answer[0], "tree", line)
        self.is_read(rows, line, answer[1])

    def tree(self, tree, texts, *line):
        self.assertEqual(self.asks(rows_of(*texts), list(line)), ("tree", tree))

    def stuck(self, place, words, texts, *line):
        answer = self.asks(rows_of(*texts), list(line))
        self.assertEqual((answer[0], answer[1], [pair[0] for pair in answer[2]]), ("stuck", place, words))
        return answer


class Read(Reading):
    """Point 10: a line that has a tree is read to it."""

    def test_the_example(self):
        self.tree(("S", 0, ["a", ("B", 1, ["b", ("B", 2, [])])]), EXAMPLE, "a", "b")
        self.tree(("S", 0, ["a", ("B", 2, [])]), EXAMPLE, "a")

    def test_the_empty_line(self):
        self.tree(("S", 0, []), ["S >"])
        self.tree(("S", 0, [("A", 1, []), ("B", 2, [("A", 1, [])])]), ["S > A B", "A >", "B > A"])
        self.tree(("S", 1, []), ["S > a S b", "S >"])

    def test_parts_without_words_first_amid_and_last(self):
        texts = ["S > A b A c A", "A > a", "A >"]
        self.tree(("S", 0, [("A", 2, []), "b", ("A", 2, []), "c", ("A", 2, [])]), texts, "b", "c")
        self.tree(("S", 0, [("A", 1, ["a"]), "b", ("A", 2, []), "c", ("A", 1, ["a"])]), texts, "a", "b", "c", "a")

    def test_a_row_that_is_used_for_what_comes_behind(self):
        self.tree(("S", 0, [("A", 1, [("B", 3, [])]), "c"]), ["S > A c", "A > B", "B > b", "B >"], "c")

    def test_sorts_of_lower_case_and_words_of_upper_case(self):
        self.tree(("s", 0, [("a", 1, ["S"]), "B"]), ["s > a B", "a > S"], "S", "B")

    def test_the_tree_holds_no_list_of_the_rows(self):
        rows = rows_of("S > a b")
        answer = read(rows, ["a", "b"])
        answer[1][2].append("c")
        self.assertEqual(rows, [("S", ["a", "b"])])


class Stuck(Reading):
    """Point 11: where a line goes on no more, and with which words it could."""

    def test_the_example(self):
        answer = self.stuck(1, ["", "b"], EXAMPLE, "a", "a", "b")
        self.assertEqual(answer, ("stuck", 1, [("", ["a"]), ("b", ["a", "b"])]))

    def test_at_the_first_word(self):
        self.stuck(0, ["a"], EXAMPLE, "b")
        self.stuck(0, ["a"], EXAMPLE, "b", "a", "b")
        self.stuck(0, ["", "a"], ["S > a S b", "S >"], "b")
        self.stuck(0, [""], ["S >"], "a")

    def test_amid(self):
        self.stuck(2, ["", "b"], EXAMPLE, "a", "b", "a", "b")
        self.stuck(2, ["a", "b"], ["S > a S b", "S >"], "a", "a", "c", "b", "b")

    def test_behind_the_last_word(self):
        self.stuck(1, ["a", "b"], ["S > a S b", "S >"], "a")
        self.stuck(3, ["b"], ["S > a S b", "S >"], "a", "a", "b")
        self.stuck(1, ["b"], ["S > a b"], "a")

    def test_the_empty_line(self):
        self.assertEqual(self.stuck(0, ["a"], EXAMPLE), ("stuck", 0, [("a", ["a"])]))
        self.stuck(0, ["a", "b"], ["S > A B", "A > a", "A >", "B > b"])

    def test_a_word_too_many(self):
        self.assertEqual(self.stuck(1, [""], ["S > a"], "a", "a"), ("stuck", 1, [("", ["a"])]))

    def test_only_words_that_go_on_behind_these_very_words(self):
        texts = ["S > a B c", "S > b B d", "B > x", "B >"]
        self.stuck(1, ["c", "x"], texts, "a", "d")
        self.stuck(1, ["d", "x"], texts, "b", "c")
        self.stuck(1, ["c", "x"], texts, "a")
        self.stuck(2, ["c"], texts, "a", "x", "d")

    def test_the_end_only_where_these_very_words_can_end(self):
        texts = ["S > a B", "S > b B c", "B > x B", "B >"]
        self.stuck(1, ["", "x"], texts, "a", "c")
        self.stuck(1, ["c", "x"], texts, "b")
        self.stuck(2, ["c", "x"], texts, "b", "x", "b")

    def test_the_place_is_not_passed_by_parts_without_words(self):
        texts = ["S > a A B c", "A > d", "A >", "B > e", "B >"]
        self.stuck(1, ["c", "d", "e"], texts, "a", "a")
        self.stuck(2, ["c", "e"], texts, "a", "d", "d")
        self.stuck(2, ["c"], texts, "a", "e", "d")

    def test_words_in_order_the_end_first(self):
        self.stuck(0, ["", "A", "Z", "a", "aa", "b"], ["S > b", "S > aa", "S > A", "S >", "S > a", "S > Z"], "B")

    def test_the_lines_told_are_the_shortest(self):
        texts = ["S > a B C", "S > d", "B > b b", "B > c B", "B > e", "C > D", "C > c", "D > E", "E >"]
        answer = self.stuck(1, ["b", "c", "e"], texts, "a")
        self.assertEqual(answer[2], [("b", ["a", "b", "b"]), ("c", ["a", "c", "e"]), ("e", ["a", "e"])])

    def test_the_answer_holds_no_list_that_was_handed_in(self):
        line = ["a"]
        rows = rows_of("S > a b")
        for pair in read(rows, line)[2]:
            pair[1].append("c")
        line.append("a")
        rows = rows_of(*EXAMPLE)
        for pair in read(rows, line)[2]:
            pair[1].append("c")
        self.assertEqual((line, rows), (["a", "a"], rows_of(*EXAMPLE)))

    def test_more_parts_than_could_be_gone_through(self):
        rows = rows_of(*WIDE, "M >")
        first_words(self, rows, read(rows, [])[1])
        self.assertEqual(read(rows, ["a"]), ("stuck", 0, [("", [])]))
        rows = rows_of("A > a B b", *WIDE[1:], "M >")
        self.assertEqual(read(rows, ["a"]), ("stuck", 1, [("b", ["a", "b"])]))
        answer = ask_unchanged(self, read, rows, ["a", "b"])
        first_words(self, rows, answer[1])
        rows = rows_of("A > a b B", *WIDE[1:], "M >")
        self.assertEqual(read(rows, ["a"]), ("stuck", 1, [("b", ["a", "b"])]))
        # Rows by which the other lines are too long to be told: what is told here needs none of them.
        rows = rows_of("A > a", "A > b B", *WIDE[1:], "M > m")
        self.assertEqual(read(rows, ["a", "b"]), ("stuck", 1, [("", ["a"])]))


class Words(Reading):
    """Point 12: any text can stand in a line."""

    def test_sorts_of_the_rows(self):
        self.stuck(0, ["a"], EXAMPLE, "S")
        self.stuck(1, ["", "b"], EXAMPLE, "a", "B")
        self.stuck(1, ["", "b"], EXAMPLE, "a", "S", "b")
        self.stuck(0, ["a"], ["S > A", "A > a"], "A")
        self.stuck(0, [""], ["S > A", "A >"], "A")

    def test_texts_that_are_no_signs(self):
        for word in (" ", ">", "a b", "a ", " a", "1", "~", "S > a B", "'", '"', "\\", "{a}", "x" * 40, "~" * 45):
            self.stuck(0, ["a"], EXAMPLE, word)
            self.stuck(1, ["", "b"], EXAMPLE, "a", word)
            self.stuck(2, ["", "b"], EXAMPLE, "a", "b", word, "b")

    def test_words_of_another_case(self):
        self.stuck(0, ["a"], EXAMPLE, "A")
        self.stuck(1, ["", "b"], EXAMPLE, "a", "b" * 2)


class AllLines(Reading):
    """Points 10 and 11: every line up to some length, held against all trees of the rows."""

    def test_every_line(self):
        seen = {"tree": 0, "stuck": 0}
        for texts in SMALL:
            rows = rows_of(*texts)
            sorts = sorted({left for left, right in rows})
            words = sorted({sign for left, right in rows for sign in right} - set(sorts))
            length = 5 if len(words) < 4 else 4
            known = trees_up_to(self, rows, length + 1)
            begun = beginnings_up_to(rows, known, length + 1)
            for count in range(length + 1):
                for line in itertools.product(words + ["q", sorts[-1]], repeat=count):
                    answer = self.asks(rows, list(line))
                    seen[answer[0]] += 1
                    told = answer if answer[0] == "tree" else answer[:2] + ([pair[0] for pair in answer[2]],)
                    self.assertEqual(told, answer_by_trees(rows, known, begun, line), (texts, line))
        self.assertGreater(min(seen.values()), 40)


class Long(Reading):
    """Lines of two hundred and fifty words and some more, with trees as deep and deeper."""

    def test_a_tree_as_deep_as_its_line(self):
        for count in (250, 300, 2000):
            line = ["a"] + ["b"] * (count - 1)
            self.assertEqual(self.asks(rows_of(*EXAMPLE), line)[0], "tree")
            answer = self.stuck(count, ["", "b"], EXAMPLE, *line, "a")
            self.assertEqual(answer[2], [("", line), ("b", line + ["b"])])

    def test_a_tree_that_nests_amid(self):
        texts = ["S > a S b", "S >"]
        half = ["a"] * 125
        self.assertEqual(self.asks(rows_of(*texts), half + ["b"] * 125)[0], "tree")
        self.stuck(250, [""], texts, *half, *["b"] * 126)
        self.stuck(249, ["b"], texts, *half, *["b"] * 124)
        answer = self.stuck(250, ["a", "b"], texts, *half, *half)
        self.assertEqual([len(pair[1]) for pair in answer[2]], [502, 500])

    def test_trees_far_deeper_than_their_lines(self):
        for count in (1, 250, 400):
            answer = self.asks(rows_of(*DOWN), ["a"] * count)
            self.assertEqual(answer[0], "tree")
            depth = 0
            part = answer[1]
            while part[2]:
                part = part[2][-1]
                depth += 1
            self.assertEqual(depth, 13 * count - 1)
            self.stuck(count, ["", "a"], DOWN, *["a"] * count, "b")

    def test_much_that_waits(self):
        texts = ["S > a " + " ".join(["S"] * 13), "S > b", "S > c T", "T > d", "T >"]
        answer = self.stuck(250, ["a", "b", "c"], texts, *["a"] * 250)
        self.assertEqual([len(pair[1]) for pair in answer[2]],
                         [251 + 251 * 12 + 1, 251 + 250 * 12, 251 + 250 * 12])

    def test_much_that_waits_without_words(self):
        texts = ["S > a S " + " ".join(["T"] * 12), "S > b", "T >"]
        line = ["a"] * 249 + ["b"]
        self.assertEqual(self.asks(rows_of(*texts), line)[0], "tree")
        self.stuck(250, [""], texts, *line, "a")

    def test_fourteen_rows_and_fourteen_signs(self):
        texts = tuple(f"S > {letter} " + " ".join(["T"] * 12) + " S" for letter in "abcdefghijkl") + ("S >", "T > t")
        line = []
        for letter in "abcdefghijklabcdef":
            line.extend([letter] + ["t"] * 12)
        self.assertEqual(self.asks(rows_of(*texts), line)[0], "tree")
        self.stuck(len(line), [""] + list("abcdefghijkl"), texts, *line, "t")
        self.stuck(len(line) - 1, ["t"], texts, *line[:-1])

    def test_somewhat_beyond_the_bounds(self):
        texts = BEYOND[:-1]
        line = ["r"] + [LONG] * 19
        self.assertEqual(self.asks(rows_of(*texts), line)[0], "tree")
        self.stuck(19, [LONG], texts, *line[:-1])
        self.stuck(20, [""], texts, *line, LONG)


class Refusing(Reading):
    """Point 4 goes ahead of all else; then rows without a table are refused, whatever the line."""

    def refuses(self, kind, texts, *lines):
        for line in lines:
            with self.assertRaises(kind) as caught:
                ask_unchanged(self, read, rows_of(*texts), line)
            self.assertIs(caught.exception.__class__, kind)

    def test_clash(self):
        lines = ([], ["a"], ["a", "b"], ["b"], ["q"], ["S"], ["a", " "], ["a"] * 250)
        self.refuses(Clash, EXAMPLE + ("B > b",), *lines)
        self.refuses(Clash, ("S > a", "S > a b"), *lines)
        self.refuses(Clash, ("S > A a", "A > a", "A >"), *lines)
        self.refuses(Clash, ("S > a A", "A > B", "A >", "B >"), *lines)
        # Also where the line has one tree alone, and is told from all others by its first word.
        self.refuses(Clash, ("S > a", "S > b", "S > b b"), *lines)

    def test_rows_that_are_refused(self):
        lines = ([], ["a"], ["a", "b"], ["q"])
        self.refuses(Unused, EXAMPLE + ("C > a",), *lines)
        self.refuses(NoEnd, EXAMPLE + ("B > c C", "C > c C"), *lines)
        self.refuses(NoEnd, EXAMPLE + ("C > a", "D > D"), *lines)

    def test_ahead_of_a_clash(self):
        self.refuses(NoEnd, ("S > a", "S > a b", "S > A", "A > A"), [], ["a"])
        self.refuses(Unused, ("S > a", "S > a b", "A > a"), [], ["a"])


if __name__ == "__main__":
    unittest.main()
