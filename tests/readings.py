"""Plain readings of the document to compare with, for terms that are not deep."""

from functools import lru_cache

from tests.samples import function_part, plain_generalize, plain_match, plain_put

MOST_NODES = 40
LARGEST_TERM = 60
LARGEST_RUN = 250


def plain_size(term):
    return 1 + sum(map(plain_size, term[1]))


def heads(term):
    """All heads of the term from the left."""
    return [term[0]] + [head for argument in term[1] for head in heads(argument)]


def plain_unknowns(term):
    return list(dict.fromkeys([head for head in heads(term) if isinstance(head, int)]))


def is_lone(term):
    return isinstance(term[0], int) and not term[1]


def parts_of_match(pattern, term):
    found = {}
    return list(found.items()) if plain_match(pattern, term, found) else None


@lru_cache(maxsize=100000)
def plain_within(first, second):
    """Section 9, case by case."""
    if not second[1]:
        return not first[1] and (first == second or (isinstance(first[0], int) and isinstance(second[0], int)))
    if plain_within(first, function_part(second)) or plain_within(first, second[1][-1]):
        return True
    return (bool(first[1]) and plain_within(function_part(first), function_part(second))
            and plain_within(first[1][-1], second[1][-1]))


def function_called(program, name):
    for function in program:
        if function[1] == name:
            return function
    return None


def put_in(body, arguments, count):
    """The body with the first arguments put in, applied to the arguments that are left."""
    head, further = plain_put(body, list(enumerate(arguments[:count])))
    return (head, further + tuple(arguments[count:]))


def plain_demand(program, term):
    """Section 12, in its order."""
    head, arguments = term
    if isinstance(head, int):
        return ("stuck", head) if arguments else ("unknown", head)
    function = function_called(program, head)
    if function is None or len(arguments) < function[2]:
        return ("value",)
    if function[0] == "plain":
        return ("step", put_in(function[3], arguments, function[2]))
    first = plain_demand(program, arguments[0])
    if first[0] == "step":
        return ("step", (head, (first[1], *arguments[1:])))
    if first[0] == "value":
        for constructor, count, body in function[3]:
            if arguments[0][0] == constructor and len(arguments[0][1]) == count:
                told = arguments[0][1] + arguments[1:]
                return ("step", put_in(body, told, count + function[2] - 1))
        return ("error",)
    return ("needs", first[1], head) if first[0] == "unknown" else first


def is_waiting(program, term):
    function = function_called(program, term[0])
    return function is not None and len(term[1]) < function[2]


def plain_next(program, term):
    """The next step of section 13: ("step", term), ("error",), or None for a whole value."""
    found = plain_demand(program, term)
    if found[0] != "value":
        return found
    if is_waiting(program, term):
        return None
    for at, argument in enumerate(term[1]):
        inner = plain_next(program, argument)
        if inner is not None and inner[0] == "step":
            return ("step", (term[0], term[1][:at] + (inner[1],) + term[1][at + 1:]))
        if inner is not None:
            return inner
    return None


def plain_shown(program, term):
    if is_waiting(program, term):
        return ("*", ())
    return (term[0], tuple([plain_shown(program, argument) for argument in term[1]]))


def plain_run(program, term, steps):
    """Section 13."""
    done = 0
    while plain_size(term) <= LARGEST_RUN:
        found = plain_next(program, term)
        if found is None:
            return ("value", plain_shown(program, term), done)
        if found[0] == "error":
            return ("error", None, done)
        if done == steps:
            break
        term = found[1]
        done += 1
    return ("open", None, done)


def plain_drive(program, term):
    """Section 14."""
    found = plain_demand(program, term)
    if found[0] == "step":
        return (found[1],)
    if found[0] != "needs":
        return ()
    terms = []
    for constructor, count, _ in function_called(program, found[2])[3]:
        fresh = max(plain_unknowns(term)) + 1
        known = (constructor, tuple([(fresh + at, ()) for at in range(count)]))
        step = plain_demand(program, plain_put(term, [(found[1], known)]))
        assert step[0] == "step"
        terms.append(step[1])
    return tuple(terms)


def plain_way(rows, number):
    """Section 17; a row is what `node` returns."""
    parent = rows[number][2]
    return [] if parent is None else [parent, *plain_way(rows, parent)]


def plain_whistle(program, rows, number):
    """Section 17."""
    term = rows[number][0]
    found = plain_demand(program, term)[0]
    others = []
    if found == "needs":
        others = [other for other in plain_way(rows, number) if rows[other][1] == "branched"]
    elif found == "step":
        for other in plain_way(rows, number):
            if rows[other][1] == "branched":
                break
            if rows[other][1] == "stepped":
                others.append(other)
    for other in others:
        if plain_within(rows[other][0], term):
            return other
    return None


def plain_move(program, rows, move):
    """Section 15: the reason why a move is refused, or the kind, the children's terms, the target and the unknowns."""
    word, number, *rest = move
    if number not in range(len(rows)) or rows[number][1] != "open":
        return "not open"
    found = MOVES[word](program, rows, number, *rest)
    if isinstance(found, str) or word == "leave":
        return found
    if len(rows) + len(found[1]) > MOST_NODES:
        return "nodes"
    if any(plain_size(term) > LARGEST_TERM for term in found[1]):
        return "size"
    return found


def plain_exposed(program, rows, number):
    term = rows[number][0]
    if isinstance(term[0], str) and plain_demand(program, term) != ("value",):
        return "no value"
    return ("exposed", term[1], None, ())


def plain_driven(program, rows, number):
    terms = plain_drive(program, rows[number][0])
    if not terms:
        return "nothing to drive"
    if plain_whistle(program, rows, number) is not None:
        return "whistle"
    kind = "stepped" if plain_demand(program, rows[number][0])[0] == "step" else "branched"
    return (kind, terms, None, ())


def plain_split(program, rows, number, body, parts):
    term = rows[number][0]
    numbers = [unknown for unknown, _ in parts]
    if not parts or len(set(numbers)) != len(numbers):
        return "unknowns"
    if any(unknown in plain_unknowns(term) or unknown not in plain_unknowns(body) for unknown in numbers):
        return "unknowns"
    if plain_put(body, parts) != term:
        return "not the term"
    terms = (body, *[part for _, part in parts])
    if max(map(plain_size, terms)) >= plain_size(term):
        return "not smaller"
    return ("split", terms, None, tuple(numbers))


def plain_folded(program, rows, number, other):
    if other not in range(len(rows)) or rows[other][1] not in ("stepped", "branched"):
        return "not driven"
    parts = parts_of_match(rows[other][0], rows[number][0])
    if parts is None:
        return "no instance"
    return ("folded", tuple([part for _, part in parts if not is_lone(part)]), other, ())


def plain_left(program, rows, number):
    return ("left", (), None, ())


MOVES = {
    "expose": plain_exposed, "drive": plain_driven, "split": plain_split, "fold": plain_folded, "leave": plain_left}


def new_parts(term, ends):
    """What stands for the ends, and the new unknowns with the ends that are no unknowns without arguments."""
    known = plain_unknowns(term)
    free = [number for number in range(1000) if number not in known]
    stand_ins, parts = [], []
    for end in ends:
        if is_lone(end):
            stand_ins.append(end)
        else:
            parts.append((free[len(parts)], end))
            stand_ins.append((parts[-1][0], ()))
    return stand_ins, tuple(parts)


def plain_auto_moves(program, rows, number):
    """Section 25: the moves that the rule tries with a node, in its order."""
    term = rows[number][0]
    moves = [("expose", number)]
    for other in plain_way(rows, number):
        if rows[other][1] in ("stepped", "branched") and parts_of_match(rows[other][0], term) is not None:
            moves.append(("fold", number, other))
            break
    moves.append(("drive", number))
    barring = plain_whistle(program, rows, number)
    if barring is not None:
        pairs = []
        body = plain_generalize(rows[barring][0], term, pairs)
        stand_ins, parts = new_parts(term, [pair[1] for pair in pairs])
        moves.append(("split", number, plain_put(body, list(enumerate(stand_ins))), parts))
    stand_ins, parts = new_parts(term, term[1])
    moves.append(("split", number, (term[0], tuple(stand_ins)), parts))
    moves.append(("leave", number))
    return moves
