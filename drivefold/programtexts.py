"""The texts of programs."""

from drivefold.errors import BadProgram, BadTerm
from drivefold.terms import calls_only, is_constructor, is_function, lone_unknowns, size, unknowns
from drivefold.termtexts import read_term, write_term

MOST_PARAMETERS = 100
MOST_FIELDS = 6
LARGEST_BODY = 120


def write_program(program):
    """Return the text of the program."""
    lines = []
    for kind, name, parameters, told in program:
        if kind == "plain":
            lines.append(write_line(name, lone_unknowns(0, parameters), told))
            continue
        for constructor, count, body in told:
            first = (constructor, lone_unknowns(0, count))
            lines.append(write_line(name, (first,) + lone_unknowns(count, parameters - 1), body))
    return "".join(lines)


def write_line(name, arguments, body):
    """Return the line of a plain function or of a rule."""
    return f"{write_term((name, arguments))} = {write_term(body)}\n"


def read_program(text):
    """Return the program whose text it is; raise BadProgram with the number of the wrong line if there is none."""
    lines = text.split("\n")
    rest = lines.pop()
    rows = []
    groups = []
    for number, line in enumerate(lines, start=1):
        row = read_line(line)
        if row is None or not is_added(row, groups):
            raise BadProgram(number)
        rows.append(row)
    if rest:
        raise BadProgram(len(lines) + 1)
    defined = {group[0][0]: True for group in groups}
    for number, row in enumerate(rows, start=1):
        if not calls_only(row[4], defined):
            raise BadProgram(number)
    return tuple([function_of(group) for group in groups])


def read_line(line):
    """Return the row of a line, or None if it is wrong by itself.

    A row holds the name of the function, the number of its parameters, the
    constructor of the rule, the number of the constructor's arguments, and the
    body. For a plain function the constructor is None.
    """
    left, _, right = line.partition(" = ")
    try:
        head, arguments = read_term(left)
        body = read_term(right)
    except BadTerm:
        return None
    if not is_function(head) or len(arguments) > MOST_PARAMETERS:
        return None
    constructor, fields, others = None, (), arguments
    if arguments and is_constructor(arguments[0][0]):
        constructor, fields = arguments[0]
        others = arguments[1:]
    known = len(fields) + len(others)
    if len(fields) > MOST_FIELDS or not are_counted(fields + others):
        return None
    if size(body) > LARGEST_BODY or any([unknown >= known for unknown in unknowns(body)]):
        return None
    return (head, len(arguments), constructor, len(fields), body)


def are_counted(terms):
    """Tell whether the terms are the unknowns 0, 1, .. without arguments."""
    return [(term[0], len(term[1])) for term in terms] == [(number, 0) for number in range(len(terms))]


def is_added(row, groups):
    """Add a row to the groups of the rows of one function each; tell whether it may stand behind them."""
    if groups and is_further(row, groups[-1]):
        groups[-1].append(row)
        return True
    if row[0] in [group[0][0] for group in groups]:
        return False
    groups.append([row])
    return True


def is_further(row, group):
    """Tell whether a row is a further rule of the function of the group."""
    if row[2] is None or row[:2] != group[0][:2]:
        return False
    constructors = [other[2] for other in group]
    return None not in constructors and row[2] not in constructors


def function_of(group):
    """Return the function that has these rows."""
    name, parameters, constructor, _, body = group[0]
    if constructor is None:
        return ("plain", name, parameters, body)
    return ("cases", name, parameters, tuple([row[2:] for row in group]))
