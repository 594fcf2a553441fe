import random
import re
import string
import unittest

from nextword.errors import NoEnd, NoRow, Unused, WordError
from nextword.grammar import empties
from nextword.notes import read_rows, shown
from nextword.table import table_of
from tests.helper import ask_unchanged

ALLOWED = [chr(code) for code in range(ord(" "), ord("~") + 1) if chr(code) != "%"]


class Written(unittest.TestCase):
    """Point 13: rows and their texts, back and forth."""

    def pairs(self, rows, texts):
        self.assertEqual(ask_unchanged(self, shown, rows), texts)
        self.assertEqual(ask_unchanged(self, read_rows, texts), rows)

    def test_the_texts_of_the_document(self):
        self.pairs([("S", ["a", "B"])], ["S > a B"])
        self.pairs([("S", [])], ["S >"])
        self.pairs([("S", ["a", "B"]), ("B", ["b", "B"]), ("B", [])], ["S > a B", "B > b B", "B >"])

    def test_the_example(self):
        rows = read_rows(["S > a B", "B > b B", "B >"])
        self.assertEqual(table_of(rows), ("table", [("B", "", 2), ("B", "b", 1), ("S", "a", 0)]))
        with self.assertRaises(Unused):
            empties(read_rows(shown(rows) + ["C > a"]))
        with self.assertRaises(NoEnd):
            empties(read_rows(shown(rows) + ["B > c C", "C > c C"]))

    def test_kinds(self):
        row = read_rows(["S > a"])[0]
        self.assertEqual([row.__class__, row[0].__class__, row[1].__class__], [tuple, str, list])

    def test_signs_of_all_letters(self):
        letters = list(string.ascii_letters)
        self.pairs([("Az", letters)], ["Az > " + " ".join(letters)])
        self.pairs([(letter, [letter]) for letter in letters], [f"{letter} > {letter}" for letter in letters])

    def test_long_signs_and_rights(self):
        self.pairs([("x" * 30, ["y" * 30] * 14)], ["x" * 30 + " >" + (" " + "y" * 30) * 14])
        self.pairs([("x" * 5000, ["y" * 3000] * 40)], ["x" * 5000 + " >" + (" " + "y" * 3000) * 40])

    def test_a_row_there_twice(self):
        self.pairs([("S", ["a"]), ("S", ["a"]), ("S", []), ("S", [])], ["S > a", "S > a", "S >", "S >"])

    def test_a_hundred_rows(self):
        rows = [("S" * (number % 7 + 1), ["a", "B"] * (number % 8)) for number in range(100)]
        texts = ["S" * (number % 7 + 1) + " >" + " a B" * (number % 8) for number in range(100)]
        self.pairs(rows, texts)
        self.pairs(rows + rows[:10], texts + texts[:10])

    def test_rows_that_are_refused_elsewhere(self):
        self.pairs([("S", ["S"])], ["S > S"])
        self.pairs([("S", ["a"]), ("C", ["C"])], ["S > a", "C > C"])

    def test_no_rows(self):
        self.pairs([], [])

    def test_the_answers_are_made_anew(self):
        rows = [("S", ["a"])]
        texts = shown(rows)
        read_rows(texts)[0][1].append("b")
        self.assertEqual(read_rows(texts), rows)

    def test_rows_by_chance(self):
        for seed in range(300):
            chance = random.Random(seed)
            rows = []
            for _ in range(chance.randint(1, 20)):
                signs = ["".join(chance.choices(string.ascii_letters, k=chance.randint(1, 30)))
                         for _ in range(chance.randint(1, 15))]
                rows.append((signs[0], signs[1:]))
            self.assertEqual(read_rows(shown(rows)), rows)


class NotARow(unittest.TestCase):
    """Point 13: every other text is refused."""

    def refuses(self, *texts):
        for text in texts:
            for around in ([text], ["S > a", text], [text, "S >"]):
                with self.assertRaises(NoRow, msg=text) as caught:
                    ask_unchanged(self, read_rows, around)
                self.assertIsInstance(caught.exception, WordError)

    def test_the_texts_of_the_document(self):
        self.refuses("S", "S >a", "S > a  b", "> a", "S > 1", "")

    def test_blanks_ahead(self):
        self.refuses(" S > a", "  S > a", " S >", " S")

    def test_blanks_behind(self):
        self.refuses("S > a ", "S > a  ", "S > ", "S >  ", "S ")

    def test_blanks_doubled(self):
        self.refuses("S  > a", "S >  a", "S > a  b", "S  >", "S > a b  c")

    def test_blanks_missing(self):
        self.refuses("S> a", "S >a", "S>a", "S>", "S> ", "Sa")

    def test_blanks_alone(self):
        self.refuses(" ", "  ", "   ", " > ", "  > a", " >")

    def test_no_mark(self):
        self.refuses("S", "S a", "S a b", "a b c d", "S - a", "S < a", "S = a")

    def test_the_mark_doubled(self):
        self.refuses("S > > a", "S >> a", "S > >", "S >>", "S > a > b", "S > a >", "> > a", "> S > a", "S > a> b")

    def test_the_mark_at_another_place(self):
        self.refuses("> a", ">", "> S a", "S a >", "S a > b", ">S a", "S a> b", "> >")

    def test_signs_of_other_than_letters(self):
        for sign in ALLOWED:
            if sign.isalpha():
                self.assertEqual(read_rows([f"S > {sign}"]), [("S", [sign])])
            else:
                self.refuses(f"S > {sign}", f"S > a{sign}", f"S > {sign}a", f"S > a{sign}a b" if sign != " " else "",
                             f"{sign} > a", f"S{sign} > a", f"{sign}S > a", f"S{sign}S > a", f"S {sign}> a",
                             f"S >{sign} a")

    def test_all_short_texts(self):
        some = " >aS1~"
        texts = [""]
        for _ in range(6):
            texts = [text + sign for text in texts for sign in some] + [""]
            for text in texts:
                fits = re.fullmatch("[A-Za-z]+ >( [A-Za-z]+)*", text) is not None
                try:
                    self.assertEqual(shown(read_rows([text])), [text])
                    self.assertTrue(fits, text)
                except NoRow:
                    self.assertFalse(fits, text)


if __name__ == "__main__":
    unittest.main()
