"""Rows of graphs: whether their kinds hold, whoever wrote them."""

from drivefold.errors import Refused
from drivefold.moves import exposed_terms, folded_terms, split_terms
from drivefold.running import driving
from drivefold.sessions import LARGEST_TERM
from drivefold.terms import calls_only, same, size


def is_right(functions, graph, number):
    """Tell whether a row is right by itself and the terms of the other rows."""
    _, term, children, _, _ = graph[number]
    if size(term) > LARGEST_TERM or not calls_only(term, functions):
        return False
    if not all([number < child < len(graph) for child in children]):
        return False
    told = [graph[child][1] for child in children]
    try:
        wanted = wanted_terms(functions, graph, number, told)
    except Refused:
        return False
    return len(told) == len(wanted) and all([same(one, other) for one, other in zip(told, wanted)])


def wanted_terms(functions, graph, number, told):
    """Return the tuple of what the terms of the row's children must be; raise Refused if its kind does not hold.

    What they are is told.
    """
    kind, term, _, target, fresh = graph[number]
    if kind == "exposed":
        return exposed_terms(functions, term)
    if kind == "split":
        return wanted_of_split(term, fresh, told)
    if kind == "folded":
        return wanted_of_fold(graph, term, target)
    if kind == "left":
        return ()
    found, terms = driving(functions, term)
    if found != kind:
        raise Refused("nothing to drive")
    return terms


def wanted_of_split(term, fresh, told):
    """Return the body and the parts of a split, which are the children themselves."""
    if len(told) != len(fresh) + 1:
        raise Refused("unknowns")
    # These terms may have any size, and put together they would be huge.
    if any([size(part) >= size(term) for part in told]):
        raise Refused("not smaller")
    return split_terms(term, told[0], tuple(zip(fresh, told[1:])))


def wanted_of_fold(graph, term, target):
    """Return the parts that make the target's term the term, except unknowns without arguments."""
    if not 0 <= target < len(graph) or graph[target][0] not in ("stepped", "branched"):
        raise Refused("not driven")
    return folded_terms(graph[target][1], term)
