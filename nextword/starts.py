"""Which sorts can be without words, and which words can begin a sort (point 5)."""

from nextword.rows import check_rows, sorts_made_of, sorts_of, sorts_reached


# In order.
def empty_sorts(rows):
    check_rows(rows)
    return sorts_made_of(rows, [])


# For each sort, in order, the words in order.
def words_to_begin(rows):
    empties = empty_sorts(rows)
    own = lists_by_sort(rows)
    links = lists_by_sort(rows)
    for left, right in rows:
        for sign in leading_signs(right, empties):
            if sign in links:
                links[left].append(sign)
            else:
                own[left].append(sign)
    return gathered(own, links)


def lists_by_sort(rows):
    lists = {}
    for sort in sorts_of(rows):
        lists[sort] = []
    return lists


# The signs that have nothing ahead of them but such as can be without words.
def leading_signs(signs, empties):
    leading = []
    for sign in signs:
        leading.append(sign)
        if sign not in empties:
            break
    return leading


def can_be_empty(signs, empties):
    return all([sign in empties for sign in signs])


# The same for some signs of a row, by what is known of the sorts.
def words_to_begin_signs(signs, empties, begins):
    words = []
    for sign in leading_signs(signs, empties):
        words.extend(begins.get(sign, [sign]))
    return sorted(set(words))


# A sort has its own words and those of all the sorts that the links lead to. Links
# may go round (a sort whose row begins with itself): so they are walked, not called.
def gathered(own, links):
    words = {}
    for sort in own:
        found = []
        for other in sorts_reached(links, sort):
            found.extend(own[other])
        words[sort] = sorted(set(found))
    return words
