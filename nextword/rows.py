"""Rows and their signs, trees and their words, and which rows are refused (points 2 to 4)."""

from nextword.errors import NoEnd, Unused

LETTERS = "ABCDEFGHIJKLMNOPQRSTUVWXYZabcdefghijklmnopqrstuvwxyz"


# Not by isalpha: that takes letters beyond A to Z and a to z too.
def is_sign(text):
    return text != "" and all([letter in LETTERS for letter in text])


def sorts_of(rows):
    return sorted(set([row[0] for row in rows]))


def words_of(rows):
    signs = []
    for row in rows:
        signs.extend(row[1])
    return sorted(set(signs) - set(sorts_of(rows)))


def first_sort(rows):
    return rows[0][0]


# A tree may be far deeper than calls may nest, also where its line is short:
# so the parts that are still to be walked wait in a list, the next one last.
def tree_words(tree):
    words = []
    waiting = [tree]
    while waiting:
        part = waiting.pop()
        if isinstance(part, tuple):
            waiting.extend(list(reversed(part[2])))
        else:
            words.append(part)
    return words


def is_tree_of(rows, sort, tree):
    sorts = sorts_of(rows)
    waiting = [(sort, tree)]
    while waiting:
        pair = waiting.pop()
        sign = pair[0]
        part = pair[1]
        if sign not in sorts:
            if part != sign:
                return False
        elif fits_row(rows, sign, part):
            waiting.extend(list(zip(rows[part[1]][1], part[2])))
        else:
            return False
    return True


# Asks of the topmost row alone: what stands in the parts is not looked at.
def fits_row(rows, sort, part):
    if not isinstance(part, tuple) or part[0] != sort:
        return False
    number = part[1]
    if number < 0 or number >= len(rows) or rows[number][0] != sort:
        return False
    return len(part[2]) == len(rows[number][1])


def is_tree_of_line(rows, tree, line):
    return is_tree_of(rows, first_sort(rows), tree) and tree_words(tree) == line


# The sorts that have a tree in which no words stand but the given ones. A row
# counts only when all sorts on its right do, so a sort can't stand for itself.
def sorts_made_of(rows, words):
    made = {}
    grown = True
    while grown:
        grown = False
        for left, right in rows:
            if left not in made and all([sign in words or sign in made for sign in right]):
                made[left] = True
                grown = True
    return sorted(made)


# What the links lead to from the sort on, itself too.
def sorts_reached(links, sort):
    reached = {}
    waiting = [sort]
    while waiting:
        here = waiting.pop()
        if here not in reached:
            reached[here] = True
            waiting.extend(links[here])
    return sorted(reached)


# This holds only where each sort has a tree: else a row on the way may be in none.
def sorts_in_trees_of_lines(rows):
    links = {}
    for sort in sorts_of(rows):
        links[sort] = []
    for left, right in rows:
        links[left].extend([sign for sign in right if sign in links])
    return sorts_reached(links, first_sort(rows))


def check_rows(rows):
    ended = sorts_made_of(rows, words_of(rows))
    for sort in sorts_of(rows):
        if sort not in ended:
            raise NoEnd(f"the sort {sort} has no tree")
    used = sorts_in_trees_of_lines(rows)
    for sort in sorts_of(rows):
        if sort not in used:
            raise Unused(f"the sort {sort} is in no tree of a line")
