"""Rows that a desk is told: their first words, and what has to follow these."""

from endsum.words import have_roles, words_of

# A name is to keep a drawing under; a drawing's name may be any word, as one
# that can't be a name is no drawing's.
ROLES = {
    "stock": ("words",),
    "draw": ("name", "words"),
    "least": ("name", "drawing"),
    "beside": ("name", "drawing", "drawing"),
    "cut": ("name", "drawing", "number", "word", "number", "word", "word", "word"),
    "sew": ("name", "drawing", "word", "word"),
    "names": (),
    "show": ("drawing",),
    "turns": ("drawing",),
    "trees": ("drawing",),
    "rings": ("drawing",),
    "parts": ("drawing",),
    "cuts": ("drawing",),
    "alike": ("drawing", "drawing"),
    "whole": ("drawing",),
    "free": ("drawing",),
    "all": ("words",),
    "sums": ("numbers",),
}


def is_row(row):
    """Whether this is a text with a first word that is known, and with what follows it."""
    if not isinstance(row, str):
        return False
    first, *words = words_of(row)
    return first in ROLES and have_roles(words, ROLES[first])


def drawings_in(first, words):
    """The drawings' names in a row, from the left."""
    return [word for word, role in zip(words, ROLES[first]) if role == "drawing"]
