"""A desk: a stock, and drawings of it under names, told and asked row by row."""

from endsum.answers import NOTHING, is_making, made, told
from endsum.errors import NoRow, NotThere
from endsum.rows import drawings_in, is_row
from endsum.texts import read_stock
from endsum.words import text_of, words_of

DONE = "ok"


class Desk:
    """What rows tell is kept here, and rows that ask are answered from it."""

    def __init__(self):
        self._stock = None
        self._drawings = {}

    def say(self, row):
        """The answer to a row."""
        if not is_row(row):
            raise NoRow("a row is a word that is known, with what has to follow it")
        first, *words = words_of(row)
        if first == "stock":
            return self._begin(text_of(words))
        if self._stock is None:
            raise NotThere("stock")
        named = [self._drawing(name) for name in drawings_in(first, words)]
        if is_making(first):
            # Only what is not refused gets as far as being kept.
            self._drawings[words[0]] = made(first, self._stock, named, words)
            return DONE
        if first == "names":
            return text_of(sorted(self._drawings)) or NOTHING
        return told(first, self._stock, named, words)

    def _begin(self, text):
        """Keep the stock of a text, and forget all drawings, which are of another one."""
        self._stock = read_stock(text)
        self._drawings = {}
        return DONE

    def _drawing(self, name):
        """The drawing of this name."""
        if name not in self._drawings:
            raise NotThere(name)
        return self._drawings[name]
