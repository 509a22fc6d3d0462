"""Texts of stocks and drawings, shown and read."""

from endsum.drawings import Drawing
from endsum.errors import NoText
from endsum.stocks import Stock
from endsum.words import have_roles, text_of, words_of

BETWEEN_PARTS = " / "

# The parts of a text by their first words, in the order in which they stand
# there, each with what follows.
STOCK_PARTS = ("sort", "kind")
DRAWING_PARTS = ("corner", "leg", "join")
ROLES = {
    "sort": ("name", "name"),
    "kind": ("name", "names"),
    "corner": ("name",),
    "leg": ("name", "name"),
    "join": ("number", "name", "number", "name"),
}


def show_stock(stock):
    """The text of a stock."""
    parts = [("sort", *row) for row in stock.sorts]
    parts.extend([("kind", name, *ends) for name, ends in stock.kinds])
    return _joined(parts)


def show_drawing(drawing):
    """The text of a drawing; that of the one without anything has no signs."""
    parts = [("corner", kind) for kind in drawing.corners]
    parts.extend([("leg", *leg) for leg in drawing.legs])
    for place, sort, other_place, other_sort in drawing.joins:
        parts.append(("join", str(place), sort, str(other_place), other_sort))
    return _joined(parts)


def _joined(parts):
    """The text of parts, each of them some words."""
    return BETWEEN_PARTS.join([text_of(words) for words in parts])


def read_stock(text):
    """The stock that a text shows."""
    parts = _parted(text, STOCK_PARTS)
    sorts = [tuple(words) for words in parts["sort"]]
    kinds = [(name, tuple(ends)) for name, *ends in parts["kind"]]
    return Stock(sorts, kinds)


def read_drawing(stock, text):
    """The drawing of a stock that a text shows."""
    # Without signs there is no part; as a part it would be none of the forms.
    if isinstance(text, str) and text == "":
        return Drawing(stock, [], [], [])
    parts = _parted(text, DRAWING_PARTS)
    corners = [words[0] for words in parts["corner"]]
    legs = [tuple(words) for words in parts["leg"]]
    joins = [(int(place), sort, int(other_place), other_sort)
             for place, sort, other_place, other_sort in parts["join"]]
    return Drawing(stock, corners, legs, joins)


def _parted(text, firsts):
    """For each of these first words the words that follow it, part by part."""
    if not isinstance(text, str):
        raise NoText(None)
    parted = {word: [] for word in firsts}
    least = 0
    for at, part in enumerate(text.split(BETWEEN_PARTS)):
        first, *words = words_of(part)
        # What stands ahead in firsts may not come any more.
        if first not in firsts[least:] or not have_roles(words, ROLES[first]):
            raise NoText(at)
        least = firsts.index(first)
        parted[first].append(words)
    return parted
