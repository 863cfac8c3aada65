"""The rule that closes a session by itself."""

from drivefold.errors import Refused
from drivefold.matching import generalize, match
from drivefold.terms import is_lone_unknown, put, unknowns


def make_move(session, number):
    """Make the first of the rule's moves with an open node that is not refused."""
    made = (is_exposed(session, number) or is_folded(session, number) or is_driven(session, number)
            or is_split_by_whistle(session, number) or is_split_by_head(session, number))
    if not made:
        session.leave(number)


def is_exposed(session, number):
    """Expose the node; tell whether this was not refused."""
    try:
        session.expose(number)
    except Refused:
        return False
    return True


def is_folded(session, number):
    """Fold the node to the nearest node on its way that allows it; tell whether this was not refused."""
    other = nearest_pattern(session, number)
    if other is None:
        return False
    try:
        session.fold(number, other)
    except Refused:
        return False
    return True


def nearest_pattern(session, number):
    """Return the nearest driven node on the way of whose term the node's term is an instance, or None."""
    term = session.node(number)[0]
    for other in session.way(number):
        pattern, kind, _, _, _, _ = session.node(other)
        if kind in ("stepped", "branched") and match(pattern, term) is not None:
            return other
    return None


def is_driven(session, number):
    """Drive the node; tell whether this was not refused."""
    try:
        session.drive(number)
    except Refused:
        return False
    return True


def is_split_by_whistle(session, number):
    """Split the node by what it has in common with the node that the whistle tells; tell whether this was done."""
    other = session.whistle(number)
    if other is None:
        return False
    term = session.node(number)[0]
    body, _, ends = generalize(session.node(other)[0], term)
    stand_ins, parts = named(ends, term)
    return is_split(session, number, put(body, tuple(enumerate(stand_ins))), parts)


def is_split_by_head(session, number):
    """Split the node into its head and its arguments; tell whether this was not refused."""
    term = session.node(number)[0]
    stand_ins, parts = named(term[1], term)
    return is_split(session, number, (term[0], stand_ins), parts)


def is_split(session, number, body, parts):
    """Split the node; tell whether this was not refused."""
    try:
        session.split(number, body, parts)
    except Refused:
        return False
    return True


def named(ends, term):
    """Return what stands for the ends, and the parts.

    An unknown without arguments stands for itself, and a new unknown for every
    other end. The new unknowns are the least numbers that the term has not.
    """
    known = unknowns(term)
    free = [number for number in range(len(known) + len(ends)) if number not in known]
    stand_ins = []
    parts = []
    for end in ends:
        if is_lone_unknown(end):
            stand_ins.append(end)
        else:
            number = free[len(parts)]
            stand_ins.append((number, ()))
            parts.append((number, end))
    return (tuple(stand_ins), tuple(parts))
