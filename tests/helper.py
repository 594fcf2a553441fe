"""What several tests need: rows from texts, edge rows, trees made by chance with a fixed seed, and looks at trees."""

import copy


def rows_of(*texts):
    """The rows of texts such as "S > a B"."""
    rows = []
    for text in texts:
        left, right = text.split(">")
        rows.append((left.strip(), right.split()))
    return rows


EXAMPLE = ("S > a B", "B > b B", "B >")

# With two rows for M, fourteen rows with fourteen signs on the right: what a sort is, it is only by way of the next
# one, down to M. The first sort may have trees of so many words that no one could write them out.
WIDE = tuple(f"{'ABCDEFGHIJKLM'[at]} > " + " ".join(["ABCDEFGHIJKLM"[at + 1]] * 14) for at in range(12))
WIDE_EMPTY = WIDE + ("M > z", "M >")
WIDE_FULL = WIDE + ("M > z M", "M > y")

# Some way beyond the bounds: twenty rows, twenty signs on the right, a sign of fifty letters.
LONG = "w" * 50
BEYOND = tuple(f"S > {letter} " + " ".join(["T"] * 19) for letter in "abcdefghijklmnopqr") + (f"T > {LONG}", "T >")


def ask_unchanged(case, ask, *handed):
    """What `ask` answers or raises, after a look that all that was handed in is as it was."""
    before = copy.deepcopy(handed)
    try:
        return ask(*handed)
    finally:
        case.assertEqual(handed, before)


def cheapest_rows(rows, costs):
    """For each sort that has a tree, the row at the top of its cheapest one: (cost, number).

    `costs` tells what each row costs, by its number, and each word; no row is free, so no tree goes on for ever.
    """
    sorts = {left for left, right in rows}
    cheapest = {}
    for _ in range(len(rows) + 1):
        for number, (left, right) in enumerate(rows):
            if all(sign in cheapest or sign not in sorts for sign in right):
                cost = costs[number] + sum(cheapest[sign][0] if sign in sorts else costs[sign] for sign in right)
                cheapest[left] = min(cheapest.get(left, (cost, number)), (cost, number))
    return cheapest


def costs_by_chance(rows, chance):
    costs = {number: chance.randint(1, 9) for number in range(len(rows))}
    for left, right in rows:
        for sign in right:
            costs[sign] = chance.choice((0, 30))
    return costs


def tree_by_chance(rows, cheapest, chance, sort, depth):
    """A tree of the sort: any rows down to some depth, then the cheapest ones."""
    number = cheapest[sort][1]
    if depth > 0:
        number = chance.choice([other for other, row in enumerate(rows) if row[0] == sort])
    parts = []
    for sign in rows[number][1]:
        if sign in cheapest:
            deeper = depth - chance.choice((1, 1, 6))
            parts.append(tree_by_chance(rows, cheapest, chance, sign, deeper))
        else:
            parts.append(sign)
    return (sort, number, parts)


def parts_of(tree):
    """The words of a tree, and (sort, number, begin, end) for each part that is a tree, itself too."""
    words = []
    spans = []

    def walk(part):
        if isinstance(part, str):
            words.append(part)
            return
        begin = len(words)
        for inner in part[2]:
            walk(inner)
        spans.append((part[0], part[1], begin, len(words)))

    walk(tree)
    return words, spans


def first_words(case, rows, tree):
    """By the id of each part of the tree, itself too: its first word, or the empty text.

    Fails where a part is not made by its row. What stands in several places is looked at once, and no call nests: so
    the tree may be deep, and may have more parts than could be gone through.
    """
    sorts = {left for left, right in rows}
    found = {}
    waiting = [(tree, False)]
    while waiting:
        part, seen = waiting.pop()
        if id(part) in found:
            continue
        case.assertEqual((part.__class__, len(part)), (tuple, 3))
        sort, number, inner = part
        case.assertEqual((number.__class__, inner.__class__), (int, list))
        case.assertEqual(rows[number][0], sort)
        case.assertEqual(len(inner), len(rows[number][1]))
        if not seen:
            waiting.append((part, True))
        first = ""
        for sign, below in zip(rows[number][1], inner):
            if sign not in sorts:
                case.assertEqual(below, sign)
                first = first or sign
            elif not seen:
                case.assertEqual(below[0], sign)
                waiting.append((below, False))
            else:
                first = first or found[id(below)]
        if seen:
            found[id(part)] = first
    return found


def shows_use(case, rows, shown, number, word):
    """Fails unless `shown`, a tuple of a number, a tree and a path, shows that the row can be used at the word."""
    case.assertEqual((shown.__class__, len(shown), shown[2].__class__), (tuple, 3, list))
    case.assertEqual(shown[0], number)
    tree, path = shown[1:]
    case.assertEqual(tree[0], rows[0][0])
    firsts = first_words(case, rows, tree)
    behind = []
    part = tree
    for place in path:
        case.assertGreaterEqual(place, 0)
        behind = part[2][place + 1:] + behind
        part = part[2][place]
    case.assertEqual(part[1], number)
    begun = [firsts.get(id(later), later) for later in [part] + behind]
    case.assertEqual(([first for first in begun if first != ""] + [""])[0], word)


def trees_up_to(case, rows, length):
    """For each sort: by each line of at most so many words that is the words of a tree of it, that tree, the only one.

    For rows with a table: fails where a line has two trees.
    """
    known = {}
    for left, right in rows:
        known[left] = {}
    grown = True
    while grown:
        grown = False
        for number, (left, right) in enumerate(rows):
            for line, parts in joined(right, known, length):
                tree = (left, number, parts)
                if line not in known[left]:
                    known[left][line] = tree
                    grown = True
                case.assertEqual(known[left][line], tree)
    return known


def joined(signs, known, length):
    """Pairs of a line and its parts, for the signs one behind the other."""
    pairs = [((), [])]
    for sign in signs:
        ways = list(known[sign].items()) if sign in known else [((sign,), sign)]
        pairs = [(line + more, parts + [part]) for line, parts in pairs for more, part in ways
                 if len(line + more) <= length]
    return pairs


def beginnings_up_to(rows, known, length):
    """All that lines with a tree begin with, up to that length. `known` is what trees_up_to tells for that length."""
    begun = {sort: {()} for sort in known}
    grown = True
    while grown:
        grown = False
        for left, right in rows:
            found = set()
            for place, sign in enumerate(right):
                for line, parts in joined(right[:place], known, length):
                    found.update(line + more for more in begun.get(sign, [(sign,)]) if len(line + more) <= length)
            if not found <= begun[left]:
                begun[left] |= found
                grown = True
    return begun[rows[0][0]]


def answer_by_trees(rows, known, begun, line):
    """What is to be read of the line (a tuple), but with the words alone where it is stuck."""
    trees = known[rows[0][0]]
    if line in trees:
        return ("tree", trees[line])
    place = 0
    while place < len(line) and line[:place + 1] in begun:
        place += 1
    words = sorted(more[-1] for more in begun if len(more) == place + 1 and more[:-1] == line[:place])
    return ("stuck", place, ([""] if line[:place] in trees else []) + words)
