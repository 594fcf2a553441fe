"""The answers held against trees made by chance, with fixed seeds: what the trees show is just what is told."""

import random
import unittest

from nextword.errors import Clash, NoEnd, Unused, WordError
from nextword.grammar import behinds, empties, firsts
from nextword.places import words_behind, words_to_use_rows
from nextword.reading import read
from nextword.rows import check_rows, is_tree_of_line, tree_words
from nextword.starts import empty_sorts, words_to_begin
from nextword.table import table_of
from tests.helper import (answer_by_trees, ask_unchanged, beginnings_up_to, cheapest_rows, costs_by_chance, parts_of,
                          shows_use, tree_by_chance, trees_up_to)


def rows_by_chance(chance):
    sorts = ["S", "A", "B", "C"][:chance.randint(1, 4)]
    signs = sorts + ["a", "b", "c"][:chance.randint(1, 3)]
    rows = [("S", [chance.choice(signs) for _ in range(chance.randint(0, 3))])]
    for _ in range(chance.randint(0, 6)):
        row = (chance.choice(sorts), [chance.choice(signs) for _ in range(chance.choice((0, 1, 1, 2, 2, 3)))])
        if row not in rows:
            rows.append(row)
    return rows


def rows_told_apart(chance):
    """Rows of which those of one sort mostly begin with words of their own, so that there is a table now and then."""
    sorts = ["S", "A", "b", "C", "D"][:chance.randint(2, 5)]
    words = ["a", "B", "c", "d", "E"][:chance.randint(2, 5)]
    rows = []
    for at, sort in enumerate(sorts):
        begins = chance.sample(words, len(words)) + sorts[at + 1:] * 2
        for _ in range(chance.choice((1, 1, 2, 2, 3))):
            right = [begins.pop(chance.randrange(len(begins)))] if begins and chance.random() < 0.8 else []
            if right:
                right += [chance.choice(sorts + words) for _ in range(chance.choice((0, 0, 1, 2, 2, 3)))]
            if (sort, right) not in rows:
                rows.append((sort, right))
    return rows


def sorts_by_use(rows):
    """The sorts found from the first one on, round by round."""
    found = {rows[0][0]}
    for _ in rows:
        for left, right in rows:
            if left in found:
                found.update(sign for sign in right if sign in [row[0] for row in rows])
    return found


class Shown:
    """What the trees seen so far show of points 5 to 7."""

    def __init__(self, rows):
        sorts = sorted({left for left, right in rows})
        self.empty = set()
        self.begin = {sort: set() for sort in sorts}
        self.behind = {sort: set() for sort in sorts}
        self.uses = [set() for row in rows]

    def see(self, tree):
        words, spans = parts_of(tree)
        ended = words + [""]
        for sort, number, begin, end in spans:
            if begin == end:
                self.empty.add(sort)
            else:
                self.begin[sort].add(words[begin])
            self.behind[sort].add(ended[end])
            self.uses[number].add(ended[begin])

    def all(self):
        return (
            sorted(self.empty),
            {sort: sorted(words) for sort, words in self.begin.items()},
            {sort: sorted(words) for sort, words in self.behind.items()},
            [sorted(words) for words in self.uses],
        )


def told(rows):
    return empty_sorts(rows), words_to_begin(rows), words_behind(rows), words_to_use_rows(rows)


class Sampled(unittest.TestCase):
    def test_refusals(self):
        seen = {NoEnd: 0, Unused: 0, None: 0}
        for seed in range(2000):
            rows = rows_by_chance(random.Random(seed))
            sorts = {left for left, right in rows}
            kind = None
            if set(cheapest_rows(rows, costs_by_chance(rows, random.Random(seed)))) != sorts:
                kind = NoEnd
            elif sorts_by_use(rows) != sorts:
                kind = Unused
            seen[kind] += 1
            if kind is None:
                check_rows(rows)
            else:
                with self.assertRaises(kind, msg=rows):
                    check_rows(rows)
        self.assertGreater(min(seen.values()), 100)

    def test_told_is_what_trees_show(self):
        taken = 0
        for seed in range(2000):
            chance = random.Random(seed)
            rows = rows_by_chance(chance)
            try:
                check_rows(rows)
            except (NoEnd, Unused):
                continue
            taken += 1
            self.hold(rows, chance)
        self.assertGreater(taken, 400)

    def hold(self, rows, chance):
        answer = told(rows)
        shown = Shown(rows)
        for count in range(4000):
            cheapest = cheapest_rows(rows, costs_by_chance(rows, chance))
            tree = tree_by_chance(rows, cheapest, chance, rows[0][0], chance.randint(1, 6))
            shown.see(tree)
            if count < 3:
                self.assertTrue(is_tree_of_line(rows, tree, parts_of(tree)[0]))
                self.assertEqual(tree_words(tree), parts_of(tree)[0])
            # Some trees more than it takes to show all that is told, so that what is not told may show too.
            if count % 50 == 49 and shown.all() == answer:
                return
        self.assertEqual(shown.all(), answer, rows)


class SampledTables(unittest.TestCase):
    """What is told by the interface, for rows made by chance; test_told_is_what_trees_show tells where rows are used."""

    def test_tables_clashes_and_lines(self):
        seen = {"table": 0, "clash": 0}
        for make, seeds in ((rows_by_chance, 1500), (rows_told_apart, 4000)):
            for seed in range(seeds):
                rows = make(random.Random(seed))
                try:
                    answer = ask_unchanged(self, table_of, rows)
                except WordError as error:
                    self.refused_alike(rows, error.__class__)
                    continue
                seen[answer[0]] += 1
                self.hold_lists(rows)
                self.hold_table(rows, answer)
                if answer[0] == "table":
                    self.hold_lines(rows, random.Random(seed))
                else:
                    for line in ([], ["a"], ["a", "B"]):
                        with self.assertRaises(Clash):
                            read(rows, line)
        self.assertGreater(min(seen.values()), 500)

    def refused_alike(self, rows, kind):
        for ask in (check_rows, empties, firsts, behinds, lambda rows: read(rows, ["a"])):
            with self.assertRaises(kind):
                ask(rows)

    def hold_lists(self, rows):
        self.assertEqual(empties(rows), empty_sorts(rows))
        self.assertEqual(firsts(rows), sorted(words_to_begin(rows).items()))
        self.assertEqual(behinds(rows), sorted(words_behind(rows).items()))

    def hold_table(self, rows, answer):
        uses = {}
        for number, words in enumerate(words_to_use_rows(rows)):
            for word in words:
                uses.setdefault((rows[number][0], word), []).append(number)
        clashing = sorted(place for place in uses if len(uses[place]) > 1)
        if clashing:
            self.assertEqual(answer[:3], ("clash",) + clashing[0])
            for shown, number in zip(answer[3:], uses[clashing[0]][:2], strict=True):
                shows_use(self, rows, shown, number, answer[2])
        else:
            self.assertEqual(answer, ("table", [place + tuple(uses[place]) for place in sorted(uses)]))

    def hold_lines(self, rows, chance):
        known = trees_up_to(self, rows, 7)
        begun = sorted(beginnings_up_to(rows, known, 7))
        signs = sorted({sign for left, right in rows for sign in right} | {rows[0][0], "q"})
        for _ in range(30):
            line = [sign for sign in chance.choice(begun)][:chance.randint(0, 6)]
            if chance.random() < 0.6:
                line[chance.randint(0, len(line)):] = chance.choices(signs, k=chance.randint(0, 6 - len(line)))
            self.hold_line(rows, line[:6], answer_by_trees(rows, known, set(begun), tuple(line[:6])))

    def hold_line(self, rows, line, expected):
        answer = ask_unchanged(self, read, rows, line)
        if answer[0] == "tree":
            self.assertEqual(answer, expected)
            return
        self.assertEqual(answer[:2] + ([pair[0] for pair in answer[2]],), expected, (rows, line))
        for word, told in answer[2]:
            self.assertEqual((told + [""])[:answer[1] + 1], line[:answer[1]] + [word])
            again = read(rows, told)
            self.assertEqual(again[0], "tree")
            self.assertEqual(parts_of(again[1])[0], told)
            shows_use(self, rows, (again[1][1], again[1], []), again[1][1], (told + [""])[0])


if __name__ == "__main__":
    unittest.main()
