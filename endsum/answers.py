"""What a row comes to: a drawing that is made, or an answer that is told.

Each of the functions in the tables is handed the stock, the drawings that the
row names, and all words behind its first one.
"""

from endsum.drawings import beside
from endsum.likeness import alike, least, turns
from endsum.lists import drawings, sum_all
from endsum.parts import cut, cuts, is_free, is_whole, join_legs, parts
from endsum.series import all_sums, free_sums, whole_sums
from endsum.texts import read_drawing, show_drawing
from endsum.trees import rings, tree_count
from endsum.words import text_of

NOTHING = "-"


def _drawn(stock, named, words):
    """The drawing that is told behind the name."""
    return read_drawing(stock, text_of(words[1:]))


def _least(stock, named, words):
    """The least drawing."""
    return least(named[0])


def _beside(stock, named, words):
    """The drawing of both."""
    return beside(named[0], named[1])


def _cut(stock, named, words):
    """The drawing with an inner join taken away."""
    place, sort, other_place, other_sort, name, other_name = words[2:]
    join = (int(place), sort, int(other_place), other_sort)
    return cut(named[0], join, (name, other_name))


def _sewn(stock, named, words):
    """The drawing with two legs taken away."""
    return join_legs(named[0], words[2], words[3])


def _shown(stock, named, words):
    """The drawing's text."""
    return show_drawing(named[0]) or NOTHING


def _turns(stock, named, words):
    """How many turns it has."""
    return str(turns(named[0]))


def _trees(stock, named, words):
    """How many trees it has."""
    return str(tree_count(named[0]))


def _rings(stock, named, words):
    """How many rings it has."""
    return str(rings(named[0]))


def _parts(stock, named, words):
    """How many parts it has."""
    return str(len(parts(named[0])))


def _cuts(stock, named, words):
    """How many cuts it has."""
    return str(len(cuts(named[0])))


def _alike(stock, named, words):
    """Whether the two are alike."""
    return _yes_or_no(alike(named[0], named[1]) is not None)


def _whole(stock, named, words):
    """Whether it is whole."""
    return _yes_or_no(is_whole(named[0]))


def _free(stock, named, words):
    """Whether it is free."""
    return _yes_or_no(is_free(named[0]))


def _yes_or_no(truth):
    """A truth as it is told."""
    return "yes" if truth else "no"


def _all(stock, named, words):
    """How many drawings of these corners there are, and their sum."""
    many = len(drawings(stock, words, []))
    return text_of([str(many), _fraction(sum_all(stock, words, []))])


def _sums(stock, named, words):
    """The three sums over the drawings with just so many corners of each kind."""
    most = tuple([int(word) for word in words])
    rows = [all_sums(stock, most, []), whole_sums(stock, most, []), free_sums(stock, most, [])]
    # No counts are greater than most itself, so it stands last.
    return text_of([_fraction(sums[-1][1]) for sums in rows])


def _fraction(pair):
    """A fraction as it is told."""
    return f"{pair[0]}/{pair[1]}"


MAKERS = {
    "draw": _drawn,
    "least": _least,
    "beside": _beside,
    "cut": _cut,
    "sew": _sewn,
}
TELLERS = {
    "show": _shown,
    "turns": _turns,
    "trees": _trees,
    "rings": _rings,
    "parts": _parts,
    "cuts": _cuts,
    "alike": _alike,
    "whole": _whole,
    "free": _free,
    "all": _all,
    "sums": _sums,
}


def is_making(first):
    """Whether a row with this first word makes a drawing."""
    return first in MAKERS


def made(first, stock, named, words):
    """The drawing that a row makes."""
    make = MAKERS[first]
    return make(stock, named, words)


def told(first, stock, named, words):
    """The answer to a row that makes nothing."""
    tell = TELLERS[first]
    return tell(stock, named, words)
