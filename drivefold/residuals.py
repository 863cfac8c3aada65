"""Residual programs: what a graph without open nodes says for all inputs."""

from drivefold.errors import TooLarge
from drivefold.matching import match
from drivefold.programtexts import LARGEST_BODY
from drivefold.running import by_name, demand_of, first_fresh
from drivefold.terms import is_lone_unknown, put, size, unknowns

MOST_LINES = 200


def residual(program, graph):
    """Return the residual program and the term that stands for node 0; raise TooLarge if they are too large."""
    functions = by_name(program)
    calls = calls_of(program, graph)
    standing = standing_terms(graph, calls)
    found = program + tuple([function_of(functions, graph[number], calls[number], standing) for number in calls])
    if line_count(found) > MOST_LINES:
        raise TooLarge("the residual program has too many lines")
    return (found, standing[0])


def line_count(program):
    """Return the number of the lines of a program."""
    return sum([1 if function[0] == "plain" else len(function[3]) for function in program])


def calls_of(program, graph):
    """Return the dict of the function nodes in order, each with its function applied to its parameters."""
    beginning = new_beginning(program)
    # All targets are branched or stepped nodes.
    targets = [row[3] for row in graph]
    calls = {}
    for number, (kind, term, _, _, _) in enumerate(graph):
        if kind == "branched" or number in targets:
            # First arguments lead to the unknown that is learnt, so it is the first one from the left.
            calls[number] = (f"{beginning}{number}", tuple([(unknown, ()) for unknown in unknowns(term)]))
    return calls


def new_beginning(program):
    """Return the first beginning of names with which the name of no function of the program begins."""
    number = 0
    while any([function[1].startswith(f"r{number}x") for function in program]):
        number += 1
    return f"r{number}x"


def standing_terms(graph, calls):
    """Return the dict of what stands for the nodes that are needed."""
    needed = needed_nodes(graph, calls)
    standing = {}
    # The children of a node stand behind it.
    for number in reversed(range(len(graph))):
        if number in needed:
            standing[number] = standing_term(graph, number, calls, standing)
    return standing


def needed_nodes(graph, calls):
    """Return the dict of the nodes that are needed."""
    needed = {0: True}
    for number, row in enumerate(graph):
        if number in needed or number in calls:
            needed.update({child: True for child in row[2]})
    return needed


def standing_term(graph, number, calls, standing):
    """Return what stands for a node, of whose children it is known; raise TooLarge if it is too large."""
    kind, term, children, target, fresh = graph[number]
    if number in calls:
        return calls[number]
    if kind == "left":
        return term
    told = [standing[child] for child in children]
    if kind == "stepped":
        return told[0]
    if kind == "exposed":
        found = (term[0], tuple(told))
    elif kind == "split":
        found = put(told[0], tuple(zip(fresh, told[1:])))
    else:
        found = folded_call(calls[target], match(graph[target][1], term), told)
    if size(found) > LARGEST_BODY:
        raise TooLarge("what stands for a node is too large")
    return found


def folded_call(call, parts, told):
    """Return the call with what stands for the parts in the places of its parameters.

    What stands for the parts that are no unknowns without arguments is told.
    """
    stand_ins = []
    used = 0
    for unknown, part in parts:
        if is_lone_unknown(part):
            stand_ins.append((unknown, part))
        else:
            stand_ins.append((unknown, told[used]))
            used += 1
    return put(call, tuple(stand_ins))


def function_of(functions, row, call, standing):
    """Return the function of a function node."""
    kind, term, children, _, _ = row
    name = call[0]
    parameters = unknowns(call)
    if kind == "stepped":
        return ("plain", name, len(parameters), numbered(standing[children[0]], parameters))
    needing = functions[demand_of(functions, term)[2]]
    fresh = first_fresh(term)
    rules = []
    for (constructor, count, _), child in zip(needing[3], children):
        known = tuple(range(fresh, fresh + count)) + parameters[1:]
        rules.append((constructor, count, numbered(standing[child], known)))
    return ("cases", name, len(parameters), tuple(rules))


def numbered(term, order):
    """Return the term with its unknowns numbered from 0 in this order."""
    return put(term, tuple([(unknown, (place, ())) for place, unknown in enumerate(order)]))
