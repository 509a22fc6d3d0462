"""Words of texts and rows: what stands between the blanks, and what it may be."""

from endsum.checks import is_name

BLANK = " "
FIGURES = "0123456789"
MOST_FIGURES = 6

# What stands last may come several times, but once at least.
SEVERAL = {"names": "name", "numbers": "number", "words": "word"}


def words_of(text):
    """The words of a text: two blanks side by side have one without signs between them."""
    return text.split(BLANK)


def text_of(words):
    """The text of these words."""
    return BLANK.join(words)


def have_roles(words, roles):
    """Whether there is just one word for each role, and fit for it."""
    if roles and roles[-1] in SEVERAL:
        times = max(1, len(words) - len(roles) + 1)
        roles = roles[:-1] + (SEVERAL[roles[-1]],) * times
    if len(words) != len(roles):
        return False
    return all([_has_role(word, role) for word, role in zip(words, roles)])


def _has_role(word, role):
    """Whether a word is a name or a number where it has to be; else it may be any."""
    if role == "name":
        return is_name(word)
    return role != "number" or _is_written_number(word)


def _is_written_number(word):
    """Whether a word is a number of at most six figures, without a 0 ahead but in 0 itself."""
    if not 1 <= len(word) <= MOST_FIGURES or not all([sign in FIGURES for sign in word]):
        return False
    return word == "0" or word[0] != "0"
