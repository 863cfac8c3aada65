"""Terms: pairs of a head and a tuple of arguments, which are terms themselves.

A head is an integer, which is an unknown, or a string, which is a name.
Terms may be deep, so no function here calls itself for the arguments, and
terms are not compared by `==`, which would go as deep as they do.
"""


def places(term):
    """Return the list of all terms in the term, itself included, from the left."""
    found = []
    waiting = [term]
    while waiting:
        part = waiting.pop()
        found.append(part)
        waiting.extend(part[1][::-1])
    return found


def assembled(rows):
    """Return the term that the rows tell, from the left.

    A row is a pair of a term and the number of further arguments that it is
    applied to. The rows behind it tell these arguments.
    """
    built = []
    for part, count in reversed(rows):
        at = len(built) - count
        # Going from the right, the first argument is built last.
        arguments = tuple(built[at:][::-1])
        del built[at:]
        built.append(applied(part, arguments))
    return built[0]


def same(first, second):
    """Tell whether two terms are equal."""
    return shape(first) == shape(second)


def shape(term):
    """Return the list of the heads from the left, each with the number of its arguments."""
    return [(head, len(arguments)) for head, arguments in places(term)]


def once(heads):
    """Return the tuple of the heads, each once, in the order of their first places."""
    return tuple({head: True for head in heads})


def size(term):
    """Return the number of unknowns and names in the term, each as often as it stands there."""
    return len(places(term))


def unknowns(term):
    """Return the tuple of the unknowns in the term, in the order of their first places."""
    return once([part[0] for part in places(term) if isinstance(part[0], int)])


def names(term):
    """Return the tuple of the names in the term, in the order of their first places."""
    return once([part[0] for part in places(term) if isinstance(part[0], str)])


def is_function(head):
    """Tell whether a head is the name of a function."""
    return isinstance(head, str) and head[0].islower()


def is_constructor(head):
    """Tell whether a head is the name of a constructor."""
    return isinstance(head, str) and not head[0].islower()


def calls_only(term, functions):
    """Tell whether all functions in the term are among the functions, which are told by their names."""
    return all([name in functions for name in names(term) if is_function(name)])


def is_lone_unknown(term):
    """Tell whether the term is an unknown without arguments."""
    return isinstance(term[0], int) and not term[1]


def lone_unknowns(first, count):
    """Return the tuple of so many unknowns without arguments, numbered from the first one on."""
    return tuple([(number, ()) for number in range(first, first + count)])


def applied(term, arguments):
    """Return the term with further arguments behind its own."""
    return (term[0], term[1] + arguments)


def put(term, parts):
    """Return the term with the parts in the places of their unknowns, all at once."""
    part_of = {unknown: part for unknown, part in parts}
    # A part is never gone through itself: its unknowns are not those of the term.
    return assembled([(part_of.get(head, (head, ())), len(arguments)) for head, arguments in places(term)])
