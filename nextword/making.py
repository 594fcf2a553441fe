"""The cheapest ways in which parts of trees can be made."""

from nextword.rows import sorts_of

# What a part is to be: any tree of its sort, or one without words.
WHOLE = "whole"
EMPTY = "empty"

# A recipe is a tuple (key, number, keys): a part for the key is made by the row of that number, of a part for each of
# the keys. A key is a pair of what the part is to be and its sign; where just a word is to stand, the word itself.


def whole_keys(signs, sorts):
    return [(WHOLE, sign) if sign in sorts else sign for sign in signs]


# A word gets a pair here too: there is no recipe for it, so nothing is made of it.
def empty_keys(signs):
    return [(EMPTY, sign) for sign in signs]


def whole_recipes(rows):
    sorts = sorts_of(rows)
    return [((WHOLE, row[0]), number, whole_keys(row[1], sorts)) for number, row in enumerate(rows)]


def empty_recipes(rows):
    return [((EMPTY, row[0]), number, empty_keys(row[1])) for number, row in enumerate(rows)]


# For each key of which a part can be made, the least cost and the recipe at the top. A word costs one, and each row
# that is used costs the price. A recipe takes the place of another only where it is cheaper: so no part is made,
# in however many steps, of a part for its own key.
def cheapest_recipes(recipes, price):
    best = {}
    grown = True
    while grown:
        grown = False
        for recipe in recipes:
            cost = cost_of_keys(recipe[2], best)
            if cost is not None and (recipe[0] not in best or cost + price < best[recipe[0]][0]):
                best[recipe[0]] = (cost + price, recipe)
                grown = True
    return best


# None where no part is known yet for one of the keys.
def cost_of_keys(keys, best):
    cost = 0
    for key in keys:
        if not isinstance(key, tuple):
            cost = cost + 1
        elif key in best:
            cost = cost + best[key][0]
        else:
            return None
    return cost


# The tree for each key by its cheapest recipe. With a price of one a part costs more than any in it, so those are made
# ahead of it. What stands in several places is made once: there may be far more places than could be gone through.
def trees_made(best):
    trees = {}
    for key in sorted(best, key=lambda made: best[made][0]):
        recipe = best[key][1]
        trees[key] = (key[1], recipe[1], [trees.get(inner, inner) for inner in recipe[2]])
    return trees


# For each sort that can be without words, its smallest tree without words.
def empty_trees(rows):
    trees = trees_made(cheapest_recipes(empty_recipes(rows), 1))
    found = {}
    for key in trees:
        found[key[1]] = trees[key]
    return found


# The words of the trees with the fewest words for the keys, by recipes found with a price of nought. What comes
# without words is passed over: it may have more parts than could be gone through.
def fewest_words(keys, best):
    words = []
    waiting = list(reversed(keys))
    while waiting:
        key = waiting.pop()
        if not isinstance(key, tuple):
            words.append(key)
        elif best[key][0] > 0:
            waiting.extend(list(reversed(best[key][1][2])))
    return words
