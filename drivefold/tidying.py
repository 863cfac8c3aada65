"""Programs without the functions that are not needed."""

from drivefold.programtexts import LARGEST_BODY
from drivefold.running import by_name, unfolded
from drivefold.terms import assembled, is_function, names, places, shape, size


def tidy(program, keep):
    """Return the program tidied up: what the terms of kept functions come to stays."""
    tidied = reached(program, keep)
    following = next_written(tidied, keep)
    while following is not None:
        tidied = reached(following, keep)
        following = next_written(tidied, keep)
    return tidied


def bodies(function):
    """Return the list of the bodies of a function."""
    return [function[3]] if function[0] == "plain" else [rule[2] for rule in function[3]]


def reached(program, keep):
    """Return the program without the functions that are not reached from those that are kept."""
    functions = by_name(program)
    found = {}
    waiting = list(keep)
    while waiting:
        name = waiting.pop()
        if name not in found:
            found[name] = True
            for body in bodies(functions[name]):
                waiting.extend([other for other in names(body) if is_function(other)])
    return tuple([function for function in program if function[1] in found])


def next_written(program, keep):
    """Return the program in which the first function that can be written in place is so, or None if there is none.

    All functions of the program are reached.
    """
    counts = argument_counts(program)
    for function in program:
        kind, name, parameters, _ = function
        # A function that is reached and not kept is named by another one, so
        # one that is named once is not named by its own body.
        if kind == "plain" and name not in keep and len(counts[name]) == 1 and counts[name][0] >= parameters:
            written = tuple([with_written(other, function) for other in program])
            if not has_large_body(written):
                return written
    return None


def argument_counts(program):
    """Return the dict of the names in all bodies, each with the list of the numbers of arguments that it has there."""
    counts = {}
    for function in program:
        for body in bodies(function):
            for head, count in shape(body):
                counts.setdefault(head, []).append(count)
    return counts


def has_large_body(program):
    """Tell whether a body of the program is too large."""
    return any([size(body) > LARGEST_BODY for function in program for body in bodies(function)])


def with_written(function, other):
    """Return the function with the other one, which is plain, written in place in its bodies."""
    kind, name, parameters, told = function
    if kind == "plain":
        return (kind, name, parameters, body_with_written(told, other))
    rules = [(constructor, count, body_with_written(body, other)) for constructor, count, body in told]
    return (kind, name, parameters, tuple(rules))


def body_with_written(body, function):
    """Return the body with the one application of the plain function written in place, if there is one."""
    _, name, parameters, told = function
    parts = places(body)
    heads = [part[0] for part in parts]
    if name not in heads:
        return body
    at = heads.index(name)
    call = parts[at]
    rows = [((head, ()), len(arguments)) for head, arguments in parts]
    # The parts of the call stand right behind it.
    rows[at:at + size(call)] = [(unfolded(told, call[1], parameters), 0)]
    return assembled(rows)
