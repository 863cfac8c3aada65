"""Plain readings of the document about graphs, papers and journals, and random graphs."""

import re
from itertools import count

from drivefold.errors import BadTerm
from drivefold.sessions import Session
from drivefold.termtexts import read_term, write_term
from tests.judges import made, random_move, random_split
from tests.readings import (
    function_called, heads, is_lone, parts_of_match, plain_demand, plain_drive, plain_exposed, plain_folded,
    plain_left, plain_move, plain_size, plain_split, plain_unknowns)
from tests.samples import plain_put

NUMBER = "(?:0|[1-9][0-9]{0,3})"
PAPER_LINE = re.compile(
    rf"(?:(?P<kind>exposed|stepped|branched|left)(?P<others>(?: {NUMBER})*)"
    rf"|split(?P<unknowns>(?: \?{NUMBER})*) of(?P<pieces>(?: {NUMBER})*)"
    rf"|folded to (?P<target>{NUMBER})(?: by(?P<parts>(?: {NUMBER})+))?) : (?P<term>.*)")
MOVE_LINES = {
    "expose": re.compile(f"expose ({NUMBER})"), "drive": re.compile(f"drive ({NUMBER})"),
    "leave": re.compile(f"leave ({NUMBER})"), "fold": re.compile(f"fold ({NUMBER}) ({NUMBER})"),
    "split": re.compile(rf"split ({NUMBER}) ([^|]*?)((?: \| \?{NUMBER} = [^|]*?)*)")}


class TooMuch(Exception):
    """A term that stands for a needed node is too large."""


class PlainResidual:
    """Sections 18 to 20, in their order."""

    def __init__(self, program, graph):
        self.program, self.graph = program, graph
        targets = [row[3] for row in graph if row[0] == "folded"]
        self.nodes = [number for number, row in enumerate(graph)
                      if row[0] == "branched" or (row[0] == "stepped" and number in targets)]
        self.beginning = next(f"r{k}x" for k in count()
                              if not [f for f in program if re.match(f"r{k}x", f[1])])
        self.known = {}

    def parameters(self, number):
        kind, term = self.graph[number][:2]
        known = plain_unknowns(term)
        if kind == "branched":
            learnt = plain_demand(self.program, term)[1]
            known.remove(learnt)
            known.insert(0, learnt)
        return known

    def stands(self, number):
        if number not in self.known:
            found = self.found(number)
            if self.graph[number][0] in ("exposed", "split", "folded") and plain_size(found) > 120:
                raise TooMuch
            self.known[number] = found
        return self.known[number]

    def found(self, number):
        kind, term, children, target, unknowns = self.graph[number]
        if number in self.nodes:
            return (f"{self.beginning}{number}", tuple([(unknown, ()) for unknown in self.parameters(number)]))
        if kind == "left":
            return term
        told = [self.stands(child) for child in children]
        if kind == "stepped":
            return told[0]
        if kind == "exposed":
            return (term[0], tuple(told))
        if kind == "split":
            return plain_put(told[0], list(zip(unknowns, told[1:])))
        parts = dict(parts_of_match(self.graph[target][1], term))
        for unknown, part in parts.items():
            parts[unknown] = part if is_lone(part) else told.pop(0)
        return (f"{self.beginning}{target}", tuple([parts[unknown] for unknown in self.parameters(target)]))

    def function(self, number):
        kind, term, children = self.graph[number][:3]
        parameters = self.parameters(number)
        name = f"{self.beginning}{number}"
        if kind == "stepped":
            return ("plain", name, len(parameters), self.body(children[0], parameters))
        fresh = max(plain_unknowns(term)) + 1
        rules = []
        for at, (constructor, fields, _) in enumerate(self.called(term)[3]):
            order = [fresh + place for place in range(fields)] + parameters[1:]
            rules.append((constructor, fields, self.body(children[at], order)))
        return ("cases", name, len(parameters), tuple(rules))

    def called(self, term):
        return function_called(self.program, plain_demand(self.program, term)[2])

    def body(self, child, order):
        return plain_put(self.stands(child), [(unknown, (place, ())) for place, unknown in enumerate(order)])


def plain_residual(program, graph):
    """The residual program and the term, or None if they are too large."""
    plain = PlainResidual(program, graph)
    try:
        start = plain.stands(0)
        functions = tuple([*program, *[plain.function(number) for number in plain.nodes]])
    except TooMuch:
        return None
    lines = sum([1 if function[0] == "plain" else len(function[3]) for function in functions])
    return None if lines > 200 else (functions, start)


def plain_read_paper(text):
    """Section 23: the graph, or None."""
    *lines, rest = text.split("\n")
    if rest or not 0 < len(lines) < 41:
        return None
    rows = [plain_read_row(line) for line in lines]
    return None if None in rows else tuple(rows)


def plain_read_row(line):
    found = PAPER_LINE.fullmatch(line)
    try:
        term = read_term(found["term"]) if found else None
    except BadTerm:
        return None
    if found is None:
        return None
    if found["kind"]:
        return (found["kind"], term, numbers(found["others"]), None, ())
    if found["target"]:
        return ("folded", term, numbers(found["parts"] or ""), int(found["target"]), ())
    return ("split", term, numbers(found["pieces"]), None, numbers(found["unknowns"].replace("?", "")))


def numbers(text):
    return tuple(map(int, text.split()))


def plain_is_right(program, graph, number):
    """Section 24."""
    kind, term, children, target, unknowns = graph[number]
    called = [head for head in heads(term) if isinstance(head, str) and head[0].islower()]
    if None in [function_called(program, name) for name in called] or plain_size(term) > 60:
        return False
    if [child for child in children if child <= number or child >= len(graph)]:
        return False
    rows = [(row[1], row[0], None) for row in graph]
    told = tuple([rows[child][0] for child in children])
    if kind in ("stepped", "branched"):
        wanted = plain_demand(program, term)[0] == {"stepped": "step", "branched": "needs"}[kind]
        return wanted and told == plain_drive(program, term)
    if kind == "split":
        if len(children) != 1 + len(unknowns):
            return False
        found = plain_split(program, rows, number, told[0], tuple(zip(unknowns, told[1:])))
    elif kind == "folded":
        found = plain_folded(program, rows, number, target)
    else:
        found = {"exposed": plain_exposed, "left": plain_left}[kind](program, rows, number)
    return not isinstance(found, str) and found[1] == told


def plain_wrong_line(program, graph):
    wrong = [number for number in range(len(graph)) if not plain_is_right(program, graph, number)]
    return wrong[0] if wrong else None


def plain_restart(program, text):
    """Section 27: the rows of the nodes, or the number of the line."""
    *lines, rest = text.split("\n")
    if not lines or not lines[0].startswith("start "):
        return 1
    term = term_of(lines[0][6:])
    if term is None or plain_size(term) > 60:
        return 1
    if [head for head in heads(term) if isinstance(head, str) and head[0].islower()
            and function_called(program, head) is None]:
        return 1
    rows = [(term, "open", None, (), None, ())]
    for number, line in enumerate(lines[1:], start=2):
        move = plain_read_move(line)
        found = "no line" if move is None else plain_move(program, rows, move)
        if isinstance(found, str):
            return number
        kind, terms, target, unknowns = found
        at = move[1]
        rows[at] = (rows[at][0], kind, rows[at][2], tuple(range(len(rows), len(rows) + len(terms))), target, unknowns)
        rows += [(child, "open", at, (), None, ()) for child in terms]
    return len(lines) + 1 if rest else rows


def plain_read_move(line):
    word = line.split(" ")[0]
    found = MOVE_LINES[word].fullmatch(line) if word in MOVE_LINES else None
    if found is None:
        return None
    if word != "split":
        return (word, *map(int, found.groups()))
    body = term_of(found[2])
    parts = [(int(part.split(" = ")[0][1:]), term_of(part.split(" = ", 1)[1])) for part in found[3].split(" | ")[1:]]
    if None in [body, *[part for _, part in parts]]:
        return None
    return (word, int(found[1]), body, tuple(parts))


def term_of(text):
    try:
        return read_term(text)
    except BadTerm:
        return None


def closed_session(random, program, start):
    """A session that is closed by random moves, and by `auto` or leaving behind them."""
    session = Session(program, start)
    for _ in range(random.choice([0, 10, 30, 60])):
        if session.open_nodes():
            made(session, random_move(random, session))
    if random.random() < 0.6:
        session.auto()
    for number in session.open_nodes():
        session.leave(number)
    return session


class GraphMaker:
    """A random graph with right rows that need not be a session's.

    Nodes have several parents or none, rows are folded to any rows before or
    behind them, and nothing is barred by a whistle.
    """

    def __init__(self, random, program, *starts):
        self.random, self.program = random, program
        self.terms, self.rows = list(starts), {}
        for number in range(40):
            if number < len(self.terms):
                self.rows[number] = self.row(number)
        self.fold()

    def graph(self):
        return tuple([self.rows.get(number, ("left", term, (), None, ())) for number, term in enumerate(self.terms)])

    def children(self, number, terms):
        """Numbers of later rows with these terms, or None if they would be too many or too large."""
        known, found = len(self.terms), []
        for term in terms:
            same = [at for at in range(number + 1, len(self.terms)) if self.terms[at] == term]
            if same and self.random.random() < 0.7:
                found.append(self.random.choice(same))
            else:
                found.append(len(self.terms))
                self.terms.append(term)
        if len(self.terms) > 40 or [term for term in terms if plain_size(term) > 60]:
            del self.terms[known:]
            return None
        return tuple(found)

    def row(self, number):
        term = self.terms[number]
        word = self.random.choice(["drive", "drive", "drive", "expose", "expose", "split", "leave"])
        rows = [(other, "open", None, (), None, ()) for other in self.terms]
        found = plain_exposed(self.program, rows, number)
        if word == "split":
            move = random_split(self.random, number, term)
            found = plain_split(self.program, rows, number, *move[2:])
        elif word == "leave":
            found = "left"
        kind = {"step": "stepped", "needs": "branched"}.get(plain_demand(self.program, term)[0])
        if word == "drive" and kind:
            found = (kind, plain_drive(self.program, term), None, ())
        children = None if isinstance(found, str) else self.children(number, found[1])
        if children is None:
            return ("left", term, (), None, ())
        return (found[0], term, children, None, found[3])

    def fold(self):
        """Fold some rows to some others."""
        for number in self.random.sample(range(len(self.terms)), len(self.terms)):
            rows = [(term, self.rows[at][0] if at in self.rows else "left", None, (), None, ())
                    for at, term in enumerate(self.terms)]
            targets = [at for at, row in enumerate(rows) if row[1] in ("stepped", "branched") and at != number
                       and parts_of_match(row[0], rows[number][0]) is not None]
            if not targets or self.random.random() < 0.5 or self.is_target(number):
                continue
            target = self.random.choice(targets)
            found = plain_folded(self.program, rows, number, target)
            children = self.children(number, found[1])
            if children is not None:
                self.rows[number] = ("folded", self.terms[number], children, target, ())

    def is_target(self, number):
        return number in [row[3] for row in self.rows.values()]


def changed_row(random, graph, number):
    """The row with a random change."""
    kind, term, children, target, unknowns = graph[number]
    others = [row[1] for row in graph]
    what = random.randrange(7)
    if what == 0:
        kind = random.choice(["exposed", "stepped", "branched", "left"])
        target, unknowns = None, ()
    elif what == 1:
        term = random.choice(others + [("S", (term,)), (term[0], term[1][:-1]), (7, ()), ("nobody", ())])
    elif what == 2:
        children = children + (random.randint(0, len(graph)),)
    elif what == 3 and children:
        children = children[:-1]
    elif what == 4 and children:
        at = random.randrange(len(children))
        children = children[:at] + (random.randint(0, len(graph)),) + children[at + 1:]
    elif what == 5:
        kind, target, unknowns = "folded", random.randint(0, len(graph)), ()
    elif kind == "split":
        unknowns = random.choice([unknowns[:-1], unknowns + (77,), unknowns + unknowns[:1], unknowns[::-1]])
    return (kind, term, children, target, unknowns)


def paper_text(graph):
    """Section 23, for graphs."""
    lines = []
    for kind, term, children, target, unknowns in graph:
        told = [str(child) for child in children]
        claim = [kind, *told]
        if kind == "split":
            claim = [kind, *[f"?{unknown}" for unknown in unknowns], "of", *told]
        if kind == "folded":
            claim = [kind, "to", str(target), *(["by", *told] if told else [])]
        lines.append(f"{' '.join(claim)} : {write_term(term)}\n")
    return "".join(lines)
