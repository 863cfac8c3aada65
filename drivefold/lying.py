"""How a term lies within another one."""

from drivefold.terms import shape

# Which unknown it is does not matter here, and no name begins like this.
UNKNOWN = "?"


def within(first, second):
    """Tell whether the first term lies within the second one."""
    targets = parts_of(second)
    found = []
    for part in parts_of(first):
        answers = lying(part, targets, found)
        # A term lies only where all of its parts lie, too.
        if not any(answers):
            return False
        found.append(answers)
    return found[-1][-1]


def parts_of(term):
    """Return the list of the term's parts, read as applications, each behind its own parts.

    An application is a pair of the places of its function part and its argument
    part in the list. A head without arguments is a pair of the head and None.
    """
    parts = []
    arguments = []
    for head, count in reversed(shape(term)):
        parts.append((UNKNOWN if isinstance(head, int) else head, None))
        for _ in range(count):
            # Going from the right, the first argument was added last.
            parts.append((len(parts) - 1, arguments.pop()))
        arguments.append(len(parts) - 1)
    return parts


def lying(part, targets, found):
    """Return the list that tells for each target whether the part lies within it.

    What was found for the parts of the part stands at their places.
    """
    one, other = part
    answers = []
    for function, argument in targets:
        if argument is None:
            answers.append(other is None and one == function)
        else:
            coupled = other is not None and found[one][function] and found[other][argument]
            answers.append(coupled or answers[function] or answers[argument])
    return answers
