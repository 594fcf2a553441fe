"""What rows tell of their sorts, as lists in order (points 5 and 6)."""

from nextword.places import words_behind
from nextword.starts import empty_sorts, words_to_begin


def empties(rows):
    return empty_sorts(rows)


def firsts(rows):
    return list(words_to_begin(rows).items())


def behinds(rows):
    return list(words_behind(rows).items())
