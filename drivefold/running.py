"""What terms demand, and how they are run and driven.

Terms may be deep, so no function here calls itself for the arguments.
"""

from drivefold.terms import applied, assembled, lone_unknowns, put, size, unknowns

LARGEST_RUN = 250
WAITING = ("*", ())


def by_name(program):
    """Return the dict of the program's functions by their names."""
    return {function[1]: function for function in program}


def demand(program, term):
    """Return what the term demands."""
    return demand_of(by_name(program), term)


def demand_of(functions, term):
    """Return what the term demands of the functions, which are given by their names."""
    inner = term
    around = []
    while is_by_cases(functions, inner):
        around.append(inner)
        inner = inner[1][0]
    found = demand_at_once(functions, inner)
    for outer in reversed(around):
        found = demand_by_cases(functions[outer[0]], outer, found)
    return found


def is_by_cases(functions, term):
    """Tell whether the first argument of the term decides what it demands."""
    function = functions.get(term[0])
    return function is not None and function[0] == "cases" and len(term[1]) >= function[2]


def demand_at_once(functions, term):
    """Return what a term demands of which no argument decides."""
    head, arguments = term
    if isinstance(head, int):
        return ("stuck", head) if arguments else ("unknown", head)
    function = functions.get(head)
    if function is None or len(arguments) < function[2]:
        return ("value",)
    return ("step", unfolded(function[3], arguments, function[2]))


def demand_by_cases(function, term, found):
    """Return what a term of a function by cases demands; what was found is what its first argument demands."""
    if found[0] == "step":
        return ("step", (term[0], (found[1],) + term[1][1:]))
    if found[0] == "unknown":
        return ("needs", found[1], term[0])
    if found[0] == "value":
        return demand_of_rules(function, term)
    return found


def demand_of_rules(function, term):
    """Return what a term of a function by cases demands, whose first argument is a value."""
    head, fields = term[1][0]
    for constructor, count, body in function[3]:
        if constructor == head and count == len(fields):
            return ("step", unfolded(body, fields + term[1][1:], count + function[2] - 1))
    return ("error",)


def unfolded(body, arguments, count):
    """Return the body with so many of the arguments put in, applied to those that are left."""
    return applied(put(body, tuple(enumerate(arguments[:count]))), arguments[count:])


def run(program, term, steps):
    """Run the term to a whole value; return the ending, the shown value or None, and the number of steps made."""
    functions = by_name(program)
    total = size(term)
    done = 0
    # A whole value stays as it is, so what is left of the place of the next step is told already.
    told = []
    waiting = [term]
    while waiting and total <= LARGEST_RUN:
        part = waiting.pop()
        found = demand_of(functions, part)
        if found[0] == "error":
            return ("error", None, done)
        if found[0] == "step":
            if done == steps:
                return ("open", None, done)
            done += 1
            total += size(found[1]) - size(part)
            waiting.append(found[1])
        elif part[0] in functions:
            told.append((WAITING, 0))
        else:
            told.append(((part[0], ()), len(part[1])))
            waiting.extend(part[1][::-1])
    return ("open", None, done) if total > LARGEST_RUN else ("value", assembled(told), done)


def drive(program, term):
    """Return the tuple of what the term becomes by driving."""
    return driving(by_name(program), term)[1]


def driving(functions, term):
    """Return the kind of a node that is driven, and the tuple of what its term becomes.

    If there is nothing to drive, the kind is None.
    """
    found = demand_of(functions, term)
    if found[0] == "step":
        return ("stepped", (found[1],))
    if found[0] == "needs":
        return ("branched", learnt(functions, term, found[1], functions[found[2]]))
    return (None, ())


def learnt(functions, term, unknown, function):
    """Return the tuple of what the term becomes for each rule of the function that needs the unknown."""
    fresh = first_fresh(term)
    terms = []
    for constructor, count, _ in function[3]:
        known = put(term, ((unknown, (constructor, lone_unknowns(fresh, count))),))
        terms.append(demand_of(functions, known)[1])
    return tuple(terms)


def first_fresh(term):
    """Return the first of the unknowns that are fresh when an unknown of the term is learnt."""
    return max(unknowns(term)) + 1
