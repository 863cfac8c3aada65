"""Sessions that are made again from their journals."""

from drivefold.errors import BadJournal, BadTerm, BadWord, Refused
from drivefold.running import by_name
from drivefold.sessions import LARGEST_TERM, Session
from drivefold.terms import calls_only, size
from drivefold.termtexts import read_term
from drivefold.words import read_number, read_unknown


def restart(program, text):
    """Return the session that the journal tells; raise BadJournal with the number of the first wrong line."""
    lines = text.split("\n")
    rest = lines.pop()
    start = read_start(program, lines[0]) if lines else None
    if start is None:
        raise BadJournal(1)
    session = Session(program, start)
    for number, line in enumerate(lines[1:], start=2):
        if not is_made(session, line):
            raise BadJournal(number)
    if rest:
        raise BadJournal(len(lines) + 1)
    return session


def read_start(program, line):
    """Return the start that a first line tells, or None if the line is wrong."""
    word, _, told = line.partition(" ")
    try:
        start = read_term(told)
    except BadTerm:
        return None
    if word != "start" or size(start) > LARGEST_TERM or not calls_only(start, by_name(program)):
        return None
    return start


def is_made(session, line):
    """Make the move that a line tells; tell whether this was done."""
    try:
        make_move(session, line)
    except (BadTerm, BadWord, Refused):
        return False
    return True


def make_move(session, line):
    """Make the move that a line tells; raise an error if the line is wrong or the move is refused."""
    word, _, told = line.partition(" ")
    first, _, rest = told.partition(" ")
    if word == "expose":
        session.expose(read_number(told))
    elif word == "drive":
        session.drive(read_number(told))
    elif word == "leave":
        session.leave(read_number(told))
    elif word == "fold":
        session.fold(read_number(first), read_number(rest))
    elif word == "split":
        # The functions of the body and the parts are those of the node, or the split is refused.
        texts = rest.split(" | ")
        session.split(read_number(first), read_term(texts[0]), tuple([read_part(text) for text in texts[1:]]))
    else:
        raise BadWord(f"{word!r} is no move")


def read_part(text):
    """Return the pair of an unknown and its part that a text tells."""
    unknown, _, part = text.partition(" = ")
    return (read_unknown(unknown), read_term(part))
