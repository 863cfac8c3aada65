"""Papers: the texts of graphs, and a checker for them."""

from drivefold.errors import BadPaper, BadTerm, BadWord, WrongPaper
from drivefold.residuals import residual
from drivefold.rows import is_right
from drivefold.running import by_name
from drivefold.sessions import MOST_NODES
from drivefold.terms import same
from drivefold.termtexts import read_term, write_head, write_term
from drivefold.words import read_number, read_numbers, read_unknown


def write_paper(graph):
    """Return the text of the graph."""
    return "".join([f"{write_claim(row)} : {write_term(row[1])}\n" for row in graph])


def write_claim(row):
    """Return the claim of a row."""
    kind, _, children, target, fresh = row
    words = [kind]
    if kind == "split":
        words.extend([write_head(unknown) for unknown in fresh])
        words.append("of")
    elif kind == "folded":
        words.extend(["to", str(target)])
        if children:
            words.append("by")
    words.extend([str(child) for child in children])
    return " ".join(words)


def read_paper(text):
    """Return the graph whose paper it is; raise BadPaper if there is none."""
    lines = text.split("\n")
    if lines.pop() or not 1 <= len(lines) <= MOST_NODES:
        raise BadPaper("a paper has 1 to 40 lines, each ended by a newline")
    return tuple([read_row(line) for line in lines])


def read_row(line):
    """Return the row that a line tells."""
    claim, _, told = line.partition(" : ")
    try:
        kind, children, target, fresh = read_claim(claim.split(" "))
        return (kind, read_term(told), children, target, fresh)
    except (BadTerm, BadWord):
        raise BadPaper(f"{line!r} is no line of a paper") from None


def read_claim(words):
    """Return the kind, the children, the target and the unknowns that the words tell; raise BadWord if they do not."""
    kind = words[0]
    if kind in ("exposed", "stepped", "branched", "left"):
        return (kind, read_numbers(words[1:]), None, ())
    if kind == "split" and "of" in words:
        at = words.index("of")
        return (kind, read_numbers(words[at + 1:]), None, tuple([read_unknown(word) for word in words[1:at]]))
    if words[:2] == ["folded", "to"] and len(words) == 3:
        return (kind, (), read_number(words[2]), ())
    if words[:2] == ["folded", "to"] and len(words) > 4 and words[3] == "by":
        return (kind, read_numbers(words[4:]), read_number(words[2]), ())
    raise BadWord("there is no such claim")


def wrong_line(program, graph):
    """Return the number of the first row that is wrong, or None."""
    functions = by_name(program)
    for number in range(len(graph)):
        if not is_right(functions, graph, number):
            return number
    return None


def check(program, start, text):
    """Return the residual program and term of a paper for the start; raise an error if the paper is wrong."""
    graph = read_paper(text)
    if not same(graph[0][1], start):
        raise WrongPaper(0)
    row = wrong_line(program, graph)
    if row is not None:
        raise WrongPaper(row)
    return residual(program, graph)
