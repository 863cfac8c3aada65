"""Sessions for the tests, judges that make moves in them, and what is asked of all sessions."""

from drivefold.errors import Refused
from drivefold.sessions import Session
from drivefold.termtexts import read_term, write_term
from tests.readings import is_lone, plain_move, plain_size, plain_unknowns, plain_way, plain_whistle, plain_within


def session_of(program, text):
    return Session(program, read_term(text))


def parts_of(*texts):
    """Parts from texts like `0 = Cons A Nil`."""
    return tuple([(int(text.split(" = ")[0]), read_term(text.split(" = ")[1])) for text in texts])


def rows_of(session):
    return [session.node(number) for number in range(session.count())]


def texts_of(session):
    """The kinds and the terms of all nodes."""
    return [f"{row[1]}: {write_term(row[0])}" for row in rows_of(session)]


def made(session, move):
    """What the session returns for a move, or the reason why it is refused."""
    word, *told = move
    methods = {"expose": session.expose, "drive": session.drive, "split": session.split, "fold": session.fold,
               "leave": session.leave}
    try:
        return methods[word](*told)
    except Refused as refused:
        return refused.reason


def line_of(move):
    """The line of a journal that tells the move."""
    if move[0] != "split":
        return " ".join(map(str, move))
    _, number, body, parts = move
    told = [f"?{unknown} = {write_term(part)}" for unknown, part in parts]
    return " | ".join([f"split {number} {write_term(body)}", *told])


def check_move(test, program, session, move):
    """Make a move, compare all with the plain readings, and return the kind of the closed node or the reason."""
    before, lines = rows_of(session), session.journal()
    wanted = plain_move(program, before, move)
    found = made(session, move)
    if isinstance(wanted, str):
        test.assertEqual(found, wanted, move)
        test.assertEqual((rows_of(session), session.journal()), (before, lines), "a refused move changes nothing")
        return wanted
    kind, terms, target, unknowns = wanted
    children = tuple(range(len(before), len(before) + len(terms)))
    test.assertEqual(found, children, move)
    after = list(before)
    after[move[1]] = (before[move[1]][0], kind, before[move[1]][2], children, target, unknowns)
    after += [(term, "open", move[1], (), None, ()) for term in terms]
    test.assertEqual(rows_of(session), after, move)
    test.assertEqual(session.journal(), f"{lines}{line_of(move)}\n")
    return kind


def check_session(test, program, session):
    """What holds of every session at any time."""
    rows = rows_of(session)
    test.assertLessEqual(len(rows), 40)
    open_nodes = tuple([number for number, row in enumerate(rows) if row[1] == "open"])
    test.assertEqual(session.open_nodes(), open_nodes)
    for number, (term, kind, parent, children, _, _) in enumerate(rows):
        test.assertLessEqual(plain_size(term), 60)
        test.assertEqual(session.way(number), tuple(plain_way(rows, number)))
        test.assertEqual(session.whistle(number), plain_whistle(program, rows, number))
        test.assertTrue(parent is None if number == 0 else number in rows[parent][3])
        if kind in ("exposed", "split", "folded"):
            test.assertTrue(all(plain_size(rows[child][0]) < plain_size(term) for child in children))
        if kind in ("stepped", "branched"):
            for other in plain_way(rows, number):
                if kind == "stepped" and rows[other][1] == "branched":
                    break
                test.assertFalse(rows[other][1] == kind and plain_within(rows[other][0], term), (other, number))
    check_graph(test, session, rows, open_nodes)


def check_graph(test, session, rows, open_nodes):
    if open_nodes:
        with test.assertRaises(Refused) as caught:
            session.graph()
        test.assertEqual(caught.exception.reason, "open")
    else:
        test.assertEqual(session.graph(), tuple([(row[1], row[0], row[3], row[4], row[5]) for row in rows]))


def places(term, path=()):
    """The paths to all places of the term below itself, and the terms that stand there."""
    found = []
    for at, argument in enumerate(term[1]):
        found.append((path + (at,), argument))
        found += places(argument, path + (at,))
    return found


def replaced(term, path, part):
    if not path:
        return part
    head, arguments = term
    at = path[0]
    return (head, arguments[:at] + (replaced(arguments[at], path[1:], part),) + arguments[at + 1:])


def random_split(random, number, term):
    """A split of the node, right more often than not."""
    known = plain_unknowns(term)
    free = [unknown for unknown in range(50) if unknown not in known]
    body, parts = term, []
    for _ in range(random.randint(0, 2)):
        options = [(path, part) for path, part in places(body) if not is_lone(part) or random.random() < 0.2]
        if options:
            path, part = random.choice(options)
            unknown = random.choice(free)
            body = replaced(body, path, (unknown, ()))
            parts.append((unknown, part))
    if body[1] and random.random() < 0.3:
        unknown = random.choice(free)
        parts.append((unknown, (body[0], body[1][:-1])))
        body = (unknown, body[1][-1:])
    if random.random() < 0.1:
        parts.append((random.choice([0, 1, 2, 50]), random.choice([(0, ()), ("A", ()), term])))
    if parts and random.random() < 0.2:
        unknown, part = parts.pop()
        parts.append((unknown, random.choice([("B", (part,)), ("A", ()), (part[0], part[1][:-1])])))
    return ("split", number, body, tuple(parts))


def random_move(random, session):
    """Any move, right or wrong, without leaving too many nodes."""
    count = session.count()
    number = random.choice(session.open_nodes()) if random.random() < 0.95 else random.randint(-1, count)
    term = session.node(number)[0] if 0 <= number < count else ("A", (("A", ()),))
    word = random.choice(["expose", "expose", "drive", "drive", "drive", "split", "fold", "fold"])
    if random.random() < 0.03:
        word = "leave"
    if word == "split":
        return random_split(random, number, term)
    if word == "fold":
        driven = [other for other in range(count) if session.node(other)[1] in ("stepped", "branched")]
        other = random.choice(driven) if driven and random.random() < 0.9 else random.randint(-1, count)
        return ("fold", number, other)
    return (word, number)
