"""Rows written as texts, and read from them (point 13)."""

from nextword.errors import NoRow
from nextword.rows import is_sign

MARK = ">"


def shown(rows):
    return [" ".join([left, MARK] + right) for left, right in rows]


def read_rows(texts):
    return [read_row(text) for text in texts]


# Parted at each single blank: so a blank too many leaves an empty piece, which is no sign.
def read_row(text):
    pieces = text.split(" ")
    if len(pieces) < 2 or pieces[1] != MARK:
        raise NoRow(f"{text!r} has no {MARK!r} behind its first sign")
    signs = pieces[:1] + pieces[2:]
    for sign in signs:
        if not is_sign(sign):
            raise NoRow(f"{sign!r} in {text!r} is no sign")
    return (signs[0], signs[1:])
