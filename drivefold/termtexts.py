"""The texts of terms."""

from drivefold.errors import BadTerm
from drivefold.terms import applied

LETTERS = "abcdefghijklmnopqrstuvwxyzABCDEFGHIJKLMNOPQRSTUVWXYZ"
DIGITS = "0123456789"


def write_term(term):
    """Return the text of the term."""
    pieces = []
    # What is still to be written: terms, and pieces of text between them.
    waiting = [term]
    while waiting:
        item = waiting.pop()
        if isinstance(item, str):
            pieces.append(item)
        else:
            pieces.append(write_head(item[0]))
            for argument in reversed(item[1]):
                waiting.extend([")", argument, " ("] if argument[1] else [argument, " "])
    return "".join(pieces)


def write_head(head):
    """Return the text of a head."""
    return f"?{head}" if isinstance(head, int) else head


def read_term(text):
    """Return the term whose text it is; raise BadTerm if it is the text of none."""
    around = []
    items = []
    for word in words(text):
        if word == "(":
            around.append(items)
            items = []
        elif word == ")":
            if not around:
                raise BadTerm("a parenthesis is closed that was not begun")
            inner = joined(items)
            items = around.pop()
            items.append(inner)
        else:
            items.append((read_head(word), ()))
    if around:
        raise BadTerm("a parenthesis is not closed")
    term = joined(items)
    # Blanks and needless parentheses were passed over above: they show here.
    if write_term(term) != text:
        raise BadTerm("a blank or a parenthesis is missing or needless")
    return term


def words(text):
    """Return the list of the heads and parentheses of a text."""
    spread = text.replace("(", " ( ").replace(")", " ) ")
    return [word for word in spread.split(" ") if word]


def joined(items):
    """Return the first of the terms, applied to the others."""
    if not items:
        raise BadTerm("there is no head")
    return applied(items[0], tuple(items[1:]))


def read_head(word):
    """Return the head whose text it is; raise BadTerm if it is the text of none."""
    if is_name(word):
        return word
    if word.startswith("?") and is_number(word[1:]):
        return int(word[1:])
    raise BadTerm(f"{word!r} is no head")


def is_name(word):
    """Tell whether a word is a name: a letter, and then letters and digits."""
    return 1 <= len(word) <= 12 and word[0] in LETTERS and consists_of(word, LETTERS + DIGITS)


def is_number(word):
    """Tell whether a word is a number from 0 to 9999 without leading zeros."""
    return 1 <= len(word) <= 4 and consists_of(word, DIGITS) and (word == "0" or word[0] != "0")


def consists_of(word, characters):
    """Tell whether all characters of a word are among the characters."""
    return all([character in characters for character in word])
