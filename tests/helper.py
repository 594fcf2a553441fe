"""What several tests need: rows from texts, edge rows, and trees made by chance with a fixed seed."""

import copy


def rows_of(*texts):
    """The rows of texts such as "S > a B"."""
    rows = []
    for text in texts:
        left, right = text.split(">")
        rows.append((left.strip(), right.split()))
    return rows


EXAMPLE = ("S > a B", "B > b B", "B >")

# With two rows for M, fourteen rows with fourteen signs on the right: what a sort is, it is only by way of the next
# one, down to M. The first sort may have trees of so many words that no one could write them out.
WIDE = tuple(f"{'ABCDEFGHIJKLM'[at]} > " + " ".join(["ABCDEFGHIJKLM"[at + 1]] * 14) for at in range(12))
WIDE_EMPTY = WIDE + ("M > z", "M >")
WIDE_FULL = WIDE + ("M > z M", "M > y")

# Some way beyond the bounds: twenty rows, twenty signs on the right, a sign of fifty letters.
LONG = "w" * 50
BEYOND = tuple(f"S > {letter} " + " ".join(["T"] * 19) for letter in "abcdefghijklmnopqr") + (f"T > {LONG}", "T >")


def ask_unchanged(case, ask, rows):
    """What `ask` answers or raises, after a look that the rows are as they were."""
    before = copy.deepcopy(rows)
    try:
        return ask(rows)
    finally:
        case.assertEqual(rows, before)


def cheapest_rows(rows, costs):
    """For each sort that has a tree, the row at the top of its cheapest one: (cost, number).

    `costs` tells what each row costs, by its number, and each word; no row is free, so no tree goes on for ever.
    """
    sorts = {left for left, right in rows}
    cheapest = {}
    for _ in range(len(rows) + 1):
        for number, (left, right) in enumerate(rows):
            if all(sign in cheapest or sign not in sorts for sign in right):
                cost = costs[number] + sum(cheapest[sign][0] if sign in sorts else costs[sign] for sign in right)
                cheapest[left] = min(cheapest.get(left, (cost, number)), (cost, number))
    return cheapest


def costs_by_chance(rows, chance):
    costs = {number: chance.randint(1, 9) for number in range(len(rows))}
    for left, right in rows:
        for sign in right:
            costs[sign] = chance.choice((0, 30))
    return costs


def tree_by_chance(rows, cheapest, chance, sort, depth):
    """A tree of the sort: any rows down to some depth, then the cheapest ones."""
    number = cheapest[sort][1]
    if depth > 0:
        number = chance.choice([other for other, row in enumerate(rows) if row[0] == sort])
    parts = []
    for sign in rows[number][1]:
        if sign in cheapest:
            deeper = depth - chance.choice((1, 1, 6))
            parts.append(tree_by_chance(rows, cheapest, chance, sign, deeper))
        else:
            parts.append(sign)
    return (sort, number, parts)


def parts_of(tree):
    """The words of a tree, and (sort, number, begin, end) for each part that is a tree, itself too."""
    words = []
    spans = []

    def walk(part):
        if isinstance(part, str):
            words.append(part)
            return
        begin = len(words)
        for inner in part[2]:
            walk(inner)
        spans.append((part[0], part[1], begin, len(words)))

    walk(tree)
    return words, spans
