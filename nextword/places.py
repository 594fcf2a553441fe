"""Which words can come behind a sort, and where a row can be used (points 6 and 7)."""

from nextword.rows import first_sort
from nextword.starts import can_be_empty, empty_sorts, gathered, lists_by_sort, words_to_begin, words_to_begin_signs

# The empty text is no sign, and comes ahead of all words in their order.
END = ""


# For each sort, in order, the words in order, the end first.
def words_behind(rows):
    empties = empty_sorts(rows)
    begins = words_to_begin(rows)
    own = lists_by_sort(rows)
    links = lists_by_sort(rows)
    own[first_sort(rows)].append(END)
    for left, right in rows:
        for place, sign in enumerate(right):
            if sign in own:
                rest = right[place + 1:]
                own[sign].extend(words_to_begin_signs(rest, empties, begins))
                if can_be_empty(rest, empties):
                    links[sign].append(left)
    return gathered(own, links)


# For each row, by its number, the words in order, the end first.
def words_to_use_rows(rows):
    empties = empty_sorts(rows)
    begins = words_to_begin(rows)
    behind = words_behind(rows)
    found = []
    for left, right in rows:
        words = words_to_begin_signs(right, empties, begins)
        if can_be_empty(right, empties):
            words = words + behind[left]
        found.append(sorted(set(words)))
    return found
