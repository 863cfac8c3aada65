"""The moves of a session that need no more than terms: what the children of a node are.

Each function returns the tuple of the children's terms, and raises Refused
if the move cannot be made of the term.
"""

from drivefold.errors import Refused
from drivefold.matching import match
from drivefold.running import demand_of
from drivefold.terms import is_lone_unknown, put, same, size, unknowns


def exposed_terms(functions, term):
    """Return the arguments of a term that is a value or whose head is an unknown."""
    if not isinstance(term[0], int) and demand_of(functions, term)[0] != "value":
        raise Refused("no value")
    return term[1]


def split_terms(term, body, parts):
    """Return the body and the parts."""
    if not are_new(term, body, parts):
        raise Refused("unknowns")
    if not same(put(body, parts), term):
        raise Refused("not the term")
    terms = (body,) + tuple([part for _, part in parts])
    if any([size(part) >= size(term) for part in terms]):
        raise Refused("not smaller")
    return terms


def are_new(term, body, parts):
    """Tell whether there are parts, and their unknowns are different ones of the body that the term has not."""
    numbers = [number for number, _ in parts]
    if not numbers or len(set(numbers)) < len(numbers):
        return False
    known = unknowns(term)
    standing = unknowns(body)
    return all([number in standing and number not in known for number in numbers])


def folded_terms(pattern, term):
    """Return the parts that make the pattern the term, except unknowns without arguments."""
    parts = match(pattern, term)
    if parts is None:
        raise Refused("no instance")
    return tuple([part for _, part in parts if not is_lone_unknown(part)])
