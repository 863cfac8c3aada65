"""Terms for the tests, and plain readings of the document to compare with."""

from itertools import product


def chain(head, levels, end="A"):
    """A term with one argument each, nested so many levels deep."""
    term = (end, ())
    for _ in range(levels):
        term = (head, (term,))
    return term


def arguments_up_to(heads, total):
    """All tuples of terms over the heads with so many heads altogether."""
    if total == 0:
        return [()]
    found = []
    for first in range(1, total + 1):
        found += [(one, *rest) for one in terms_of_size(heads, first) for rest in arguments_up_to(heads, total - first)]
    return found


def terms_of_size(heads, total):
    return [(head, arguments) for head, arguments in product(heads, arguments_up_to(heads, total - 1))]


def small_terms(heads, largest):
    return [term for total in range(1, largest + 1) for term in terms_of_size(heads, total)]


def function_part(term):
    return (term[0], term[1][:-1])


def plain_put(term, parts):
    """Section 6, for terms that are not deep."""
    arguments = tuple([plain_put(argument, parts) for argument in term[1]])
    for unknown, part in parts:
        if term[0] == unknown:
            return (part[0], part[1] + arguments)
    return (term[0], arguments)


def plain_match(pattern, term, found):
    """Section 7 by applications: whether there are parts, which are added to what is found."""
    if pattern[1]:
        return (bool(term[1]) and plain_match(function_part(pattern), function_part(term), found)
                and plain_match(pattern[1][-1], term[1][-1], found))
    if isinstance(pattern[0], str):
        return pattern == term
    return found.setdefault(pattern[0], term) == term


def plain_generalize(first, second, pairs):
    """Section 8 by applications: the body; the pairs of its unknowns are added to the pairs."""
    if first == second and isinstance(first[0], str) and not first[1]:
        return first
    if first[1] and second[1]:
        body = plain_generalize(function_part(first), function_part(second), pairs)
        return (body[0], body[1] + (plain_generalize(first[1][-1], second[1][-1], pairs),))
    if (first, second) not in pairs:
        pairs.append((first, second))
    return (pairs.index((first, second)), ())
