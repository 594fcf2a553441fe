"""The answers held against trees made by chance, with fixed seeds: what the trees show is just what is told."""

import random
import unittest

from nextword.errors import NoEnd, Unused
from nextword.places import words_behind, words_to_use_rows
from nextword.rows import check_rows, is_tree_of_line, tree_words
from nextword.starts import empty_sorts, words_to_begin
from tests.helper import cheapest_rows, costs_by_chance, parts_of, tree_by_chance


def rows_by_chance(chance):
    sorts = ["S", "A", "B", "C"][:chance.randint(1, 4)]
    signs = sorts + ["a", "b", "c"][:chance.randint(1, 3)]
    rows = [("S", [chance.choice(signs) for _ in range(chance.randint(0, 3))])]
    for _ in range(chance.randint(0, 6)):
        row = (chance.choice(sorts), [chance.choice(signs) for _ in range(chance.choice((0, 1, 1, 2, 2, 3)))])
        if row not in rows:
            rows.append(row)
    return rows


def sorts_by_use(rows):
    """The sorts found from the first one on, round by round."""
    found = {rows[0][0]}
    for _ in rows:
        for left, right in rows:
            if left in found:
                found.update(sign for sign in right if sign in [row[0] for row in rows])
    return found


class Shown:
    """What the trees seen so far show of points 5 to 7."""

    def __init__(self, rows):
        sorts = sorted({left for left, right in rows})
        self.empty = set()
        self.begin = {sort: set() for sort in sorts}
        self.behind = {sort: set() for sort in sorts}
        self.uses = [set() for row in rows]

    def see(self, tree):
        words, spans = parts_of(tree)
        ended = words + [""]
        for sort, number, begin, end in spans:
            if begin == end:
                self.empty.add(sort)
            else:
                self.begin[sort].add(words[begin])
            self.behind[sort].add(ended[end])
            self.uses[number].add(ended[begin])

    def all(self):
        return (
            sorted(self.empty),
            {sort: sorted(words) for sort, words in self.begin.items()},
            {sort: sorted(words) for sort, words in self.behind.items()},
            [sorted(words) for words in self.uses],
        )


def told(rows):
    return empty_sorts(rows), words_to_begin(rows), words_behind(rows), words_to_use_rows(rows)


class Sampled(unittest.TestCase):
    def test_refusals(self):
        seen = {NoEnd: 0, Unused: 0, None: 0}
        for seed in range(2000):
            rows = rows_by_chance(random.Random(seed))
            sorts = {left for left, right in rows}
            kind = None
            if set(cheapest_rows(rows, costs_by_chance(rows, random.Random(seed)))) != sorts:
                kind = NoEnd
            elif sorts_by_use(rows) != sorts:
                kind = Unused
            seen[kind] += 1
            if kind is None:
                check_rows(rows)
            else:
                with self.assertRaises(kind, msg=rows):
                    check_rows(rows)
        self.assertGreater(min(seen.values()), 100)

    def test_told_is_what_trees_show(self):
        taken = 0
        for seed in range(2000):
            chance = random.Random(seed)
            rows = rows_by_chance(chance)
            try:
                check_rows(rows)
            except (NoEnd, Unused):
                continue
            taken += 1
            self.hold(rows, chance)
        self.assertGreater(taken, 400)

    def hold(self, rows, chance):
        answer = told(rows)
        shown = Shown(rows)
        for count in range(4000):
            cheapest = cheapest_rows(rows, costs_by_chance(rows, chance))
            tree = tree_by_chance(rows, cheapest, chance, rows[0][0], chance.randint(1, 6))
            shown.see(tree)
            if count < 3:
                self.assertTrue(is_tree_of_line(rows, tree, parts_of(tree)[0]))
                self.assertEqual(tree_words(tree), parts_of(tree)[0])
            # Some trees more than it takes to show all that is told, so that what is not told may show too.
            if count % 50 == 49 and shown.all() == answer:
                return
        self.assertEqual(shown.all(), answer, rows)


if __name__ == "__main__":
    unittest.main()
