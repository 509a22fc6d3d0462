"""What may be asked of anything that is handed in."""

LETTERS = "abcdefghijklmnopqrstuvwxyz"
LONGEST_NAME = 8


def is_number(thing):
    """Whether it is a whole number."""
    # Python counts a truth among the ints; here it is no number.
    return isinstance(thing, int) and not isinstance(thing, bool)


def is_name(thing):
    """Whether it is a text of one to eight small letters."""
    if not isinstance(thing, str) or not 1 <= len(thing) <= LONGEST_NAME:
        return False
    return all([sign in LETTERS for sign in thing])


def is_pair(thing):
    """Whether it is a tuple of two things."""
    return isinstance(thing, tuple) and len(thing) == 2


def is_list(thing, fewest, most):
    """Whether it is a list of so many things."""
    return isinstance(thing, list) and fewest <= len(thing) <= most


def are_unlike(things):
    """Whether no thing of a list stands in it twice."""
    return len(set(things)) == len(things)
