"""Instances of patterns, and what two terms have in common.

A term with arguments is read as an application: its function part is the term
without its last argument, and its argument part is its last argument.
"""

from drivefold.terms import assembled, is_lone_unknown, same
from drivefold.termtexts import write_term


def meetings(first, second):
    """Go through two terms together, from the left, as deep as both are applications.

    Two terms share as many last arguments as both have. A row of the list holds
    their fronts, which are what stands before these arguments, and their number.
    At least one of the two fronts is without arguments.
    """
    rows = []
    waiting = [(first, second)]
    while waiting:
        one, other = waiting.pop()
        # Applications are taken apart from the last argument on.
        pairs = list(zip(one[1][::-1], other[1][::-1]))
        rows.append((front(one, len(pairs)), front(other, len(pairs)), len(pairs)))
        waiting.extend(pairs)
    return rows


def front(term, count):
    """Return the term without its last arguments, as many as are told."""
    return (term[0], term[1][:len(term[1]) - count])


def match(pattern, term):
    """Return the parts that make the pattern the term, or None if there are none."""
    parts = {}
    for model, part, _ in meetings(pattern, term):
        wanted = parts.setdefault(model[0], part) if is_lone_unknown(model) else model
        if not same(wanted, part):
            return None
    return tuple(parts.items())


def generalize(first, second):
    """Return the most specific common generalization, and the parts for each of the two terms."""
    rows = []
    numbers = {}
    first_parts = []
    second_parts = []
    for one, other, shared in meetings(first, second):
        if isinstance(one[0], str) and same(one, other):
            rows.append((one, shared))
            continue
        # Texts are keys here, as deep terms are none.
        key = (write_term(one), write_term(other))
        if key not in numbers:
            numbers[key] = len(numbers)
            first_parts.append(one)
            second_parts.append(other)
        rows.append(((numbers[key], ()), shared))
    return (assembled(rows), tuple(first_parts), tuple(second_parts))
