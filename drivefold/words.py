"""Words of the lines of papers and journals."""

from drivefold.errors import BadWord
from drivefold.termtexts import is_number


def read_number(word):
    """Return the number whose text it is; raise BadWord if it is the text of none."""
    if not is_number(word):
        raise BadWord(f"{word!r} is no number")
    return int(word)


def read_numbers(words):
    """Return the tuple of the numbers whose texts they are."""
    return tuple([read_number(word) for word in words])


def read_unknown(word):
    """Return the unknown whose text it is; raise BadWord if it is the text of none."""
    if not word.startswith("?"):
        raise BadWord(f"{word!r} is no unknown")
    return read_number(word[1:])
