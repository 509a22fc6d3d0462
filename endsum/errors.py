"""The refusals: one class for each thing that Endsum may refuse.

A refusal with a value calls no other __init__: Python keeps what an error is
made of as its message, so the value is told there, too.
"""


class EndError(ValueError):
    """Whatever is refused."""


class NoStock(EndError):
    """These are no sorts or no kinds: part tells which of them."""

    def __init__(self, part):
        self.part = part


class NoDrawing(EndError):
    """These are no corners, no legs or no joins: part tells which of them."""

    def __init__(self, part):
        self.part = part


class NoRenaming(EndError):
    """This does not give each number of a corner just once."""


class NoMatch(EndError):
    """These do not go together."""


class TooMany(EndError):
    """There are, or would be, more than the limit."""


class NoPairing(EndError):
    """This does not pair all ends with partners."""


class NoJoin(EndError):
    """There is no such join, or none can be made."""


class NoName(EndError):
    """These names can't be given."""


class NoLeg(EndError):
    """There are no such legs."""


class NoCounts(EndError):
    """These are no numbers of corners of the kinds."""


class NoWeights(EndError):
    """These are no colours, or no numbers for joins or corners: part tells which."""

    def __init__(self, part):
        self.part = part


class NoColours(EndError):
    """This does not give each leg a colour."""


class NoNumbers(EndError):
    """This does not give each inner join a number."""


class NoText(EndError):
    """This text can't be read: at tells which part of it, None where it is no text."""

    def __init__(self, at):
        self.at = at


class NoRow(EndError):
    """This is no row that the desk knows."""


class NotThere(EndError):
    """The desk has no such thing: name tells what."""

    def __init__(self, name):
        self.name = name
