"""The table that tells the row to use, or the first clash where there is none (points 8 and 9)."""

from nextword.places import words_to_use_rows
from nextword.showing import use_shown


def table_of(rows):
    uses = uses_in_order(rows)
    clash = first_clash(uses)
    if clash is None:
        return ("table", [(sort, word, numbers[0]) for sort, word, numbers in uses])
    word = clash[1]
    numbers = clash[2]
    return ("clash", clash[0], word, use_shown(rows, numbers[0], word), use_shown(rows, numbers[1], word))


# For each sort and word (or the end) where some row can be used, in order: a tuple of these and the rows' numbers.
def uses_in_order(rows):
    numbers = {}
    for number, words in enumerate(words_to_use_rows(rows)):
        for word in words:
            numbers.setdefault((rows[number][0], word), []).append(number)
    return [(sort, word, numbers[(sort, word)]) for sort, word in sorted(numbers)]


def first_clash(uses):
    for use in uses:
        if len(use[2]) > 1:
            return use
    return None
