"""Trees that show where a row can be used (point 7, as point 9 tells it)."""

from nextword.making import EMPTY, WHOLE, cheapest_recipes, empty_keys, trees_made, whole_keys
from nextword.places import END
from nextword.rows import first_sort, sorts_of

# What a part may be beside whole or empty: one that begins with the word; one that holds the part to be shown, and the
# word where that begins; one that holds it with no word from there on, so that the word comes behind them both.
BEGIN = "begin"
HOLD = "hold"
LAST = "last"


# The row's number, with the smallest tree of a line that shows that it can be used where the word (or the end) comes
# next, and the path to the part that does.
def use_shown(rows, number, word):
    recipes = recipes_of_part(rows, number, word)
    for other in range(len(rows)):
        recipes.extend(recipes_of_row(rows, other, word))
    best = cheapest_recipes(recipes, 1)
    goal = (LAST if word == END else HOLD, first_sort(rows))
    return (number, trees_made(best)[goal], path_to_part(best, goal))


# The part to be shown itself, made by the row.
def recipes_of_part(rows, number, word):
    left = rows[number][0]
    right = rows[number][1]
    recipes = [((LAST, left), number, empty_keys(right))]
    for keys in keys_to_begin(right, word, sorts_of(rows)):
        recipes.append(((HOLD, left), number, keys))
    return recipes


# All else that the row may stand for: with nothing to be shown in it, or in just one of its parts.
def recipes_of_row(rows, number, word):
    sorts = sorts_of(rows)
    left = rows[number][0]
    right = rows[number][1]
    recipes = [((WHOLE, left), number, whole_keys(right, sorts)), ((EMPTY, left), number, empty_keys(right))]
    for keys in keys_to_begin(right, word, sorts):
        recipes.append(((BEGIN, left), number, keys))
    for place, sign in enumerate(right):
        ahead = whole_keys(right[:place], sorts)
        rest = right[place + 1:]
        recipes.append(((HOLD, left), number, ahead + [(HOLD, sign)] + whole_keys(rest, sorts)))
        recipes.append(((LAST, left), number, ahead + [(LAST, sign)] + empty_keys(rest)))
        for keys in keys_to_begin(rest, word, sorts):
            recipes.append(((HOLD, left), number, ahead + [(LAST, sign)] + keys))
    return recipes


# All ways in which the word comes first in the signs: by the sign at some place, with nothing ahead of it.
def keys_to_begin(signs, word, sorts):
    ways = []
    for place, sign in enumerate(signs):
        start = word if sign == word else (BEGIN, sign)
        ways.append(empty_keys(signs[:place]) + [start] + whole_keys(signs[place + 1:], sorts))
    return ways


def path_to_part(best, goal):
    path = []
    key = goal
    while key is not None:
        keys = best[key][1][2]
        key = None
        for place, inner in enumerate(keys):
            if isinstance(inner, tuple) and inner[0] in (HOLD, LAST):
                path.append(place)
                key = inner
    return path
