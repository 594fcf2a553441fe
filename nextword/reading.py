"""Lines read to their trees, or to the place where they are stuck (points 10 to 12)."""

from nextword.errors import Clash
from nextword.making import cheapest_recipes, empty_trees, fewest_words, whole_keys, whole_recipes
from nextword.places import END
from nextword.rows import first_sort, sorts_of
from nextword.starts import can_be_empty, words_to_begin, words_to_begin_signs
from nextword.table import first_clash, uses_in_order


# The signs that are due wait in a list, the next one last, each with the list of parts in which it is to stand. What
# waits depends on the words ahead alone, not on the next one: so just what can come of it can go on there.
def read(rows, line):
    guide = Guide(rows)
    top = []
    waiting = [(first_sort(rows), top)]
    for place, word in enumerate(line):
        if not guide.goes_on(waiting, word):
            return ("stuck", place, guide.ways_on(waiting, line[:place]))
        guide.take(waiting, word)
    if not guide.can_end(waiting):
        return ("stuck", len(line), guide.ways_on(waiting, line))
    guide.finish(waiting)
    return ("tree", top[0])


# By sort and word (or the end).
def numbers_to_use(rows):
    uses = uses_in_order(rows)
    if first_clash(uses) is not None:
        raise Clash("there are rows that the next word does not tell apart")
    numbers = {}
    for sort, word, found in uses:
        numbers[(sort, word)] = found[0]
    return numbers


# The signs that wait, the next one first.
def signs_due(waiting):
    return [pair[0] for pair in reversed(waiting)]


# What is asked of the rows at each word of a line.
class Guide:
    def __init__(self, rows):
        self.rows = rows
        self.numbers = numbers_to_use(rows)
        self.begins = words_to_begin(rows)
        self.blanks = empty_trees(rows)

    # Not by the table: that has words too that come behind the sort in other lines than this one.
    def begins_with(self, sign, word):
        return word in self.begins.get(sign, [sign])

    def goes_on(self, waiting, word):
        for sign, parts in reversed(waiting):
            if self.begins_with(sign, word):
                return True
            if sign not in self.blanks:
                return False
        return False

    # Asked only where the word goes on: so what can't begin with it stays without words.
    def take(self, waiting, word):
        taken = False
        while not taken:
            pair = waiting.pop()
            sign = pair[0]
            parts = pair[1]
            if not self.begins_with(sign, word):
                parts.append(self.blanks[sign])
            elif sign in self.begins:
                inner = []
                number = self.numbers[(sign, word)]
                parts.append((sign, number, inner))
                waiting.extend([(due, inner) for due in reversed(self.rows[number][1])])
            else:
                parts.append(word)
                taken = True

    def can_end(self, waiting):
        return can_be_empty(signs_due(waiting), self.blanks)

    def finish(self, waiting):
        for sign, parts in reversed(waiting):
            parts.append(self.blanks[sign])

    # The words with which a line can go on behind those ahead, each with the shortest such line.
    def ways_on(self, waiting, ahead):
        ways = []
        if self.can_end(waiting):
            ways.append((END, list(ahead)))
        best = cheapest_recipes(whole_recipes(self.rows), 0)
        sorts = sorts_of(self.rows)
        for word in words_to_begin_signs(signs_due(waiting), self.blanks, self.begins):
            # With lists of its own, so that nothing is put twice into the parts of the line that is read.
            trial = [(sign, []) for sign, parts in waiting]
            self.take(trial, word)
            ways.append((word, ahead + [word] + fewest_words(whole_keys(signs_due(trial), sorts), best)))
        return ways
