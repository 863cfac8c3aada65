"""Sessions: a term is unfolded into a graph, move by move."""

from drivefold.errors import Refused
from drivefold.judging import make_move
from drivefold.lying import within
from drivefold.moves import exposed_terms, folded_terms, split_terms
from drivefold.running import by_name, driving
from drivefold.terms import size
from drivefold.termtexts import write_term

MOST_NODES = 40
LARGEST_TERM = 60


class Session:
    """The nodes that a judge has made of a start term.

    A node is a tuple of its term, its kind, its parent, its children, the node
    that it is folded to, and the unknowns of the parts if it is split.
    """

    def __init__(self, program, start):
        self._functions = by_name(program)
        self._nodes = [(start, "open", None, (), None, ())]
        self._lines = [f"start {write_term(start)}"]

    def expose(self, node):
        """Close an open node that is a value or has an unknown as its head: its children are its arguments."""
        terms = exposed_terms(self._functions, self._open_term(node))
        return self._closed(node, "exposed", terms, None, (), f"expose {node}")

    def drive(self, node):
        """Close an open node by driving its term."""
        kind, terms = driving(self._functions, self._open_term(node))
        if kind is None:
            raise Refused("nothing to drive")
        if self.whistle(node) is not None:
            raise Refused("whistle")
        return self._closed(node, kind, terms, None, (), f"drive {node}")

    def split(self, node, body, parts):
        """Close an open node: its children are the body and the parts, which make its term together."""
        terms = split_terms(self._open_term(node), body, parts)
        told = "".join([f" | ?{unknown} = {write_term(part)}" for unknown, part in parts])
        fresh = tuple([unknown for unknown, _ in parts])
        return self._closed(node, "split", terms, None, fresh, f"split {node} {write_term(body)}{told}")

    def fold(self, node, other):
        """Close an open node that is an instance of a driven node: its children are what makes it one."""
        term = self._open_term(node)
        if not self._is_node(other) or self._nodes[other][1] not in ("stepped", "branched"):
            raise Refused("not driven")
        terms = folded_terms(self._nodes[other][0], term)
        return self._closed(node, "folded", terms, other, (), f"fold {node} {other}")

    def leave(self, node):
        """Close an open node as it is."""
        self._open_term(node)
        return self._closed(node, "left", (), None, (), f"leave {node}")

    def count(self):
        """Return the number of nodes."""
        return len(self._nodes)

    def open_nodes(self):
        """Return the tuple of the open nodes' numbers in ascending order."""
        return tuple([number for number, row in enumerate(self._nodes) if row[1] == "open"])

    def node(self, number):
        """Return the term, the kind, the parent, the children, the target and the unknowns of a node."""
        if not self._is_node(number):
            raise Refused("no node")
        return self._nodes[number]

    def whistle(self, number):
        """Return the nearest node on the way that bars driving the node, or None."""
        term = self.node(number)[0]
        kind, _ = driving(self._functions, term)
        for other in self.way(number):
            pattern, other_kind, _, _, _, _ = self._nodes[other]
            if other_kind == kind and within(pattern, term):
                return other
            if kind == "stepped" and other_kind == "branched":
                return None
        return None

    def way(self, number):
        """Return the tuple of the node's parent, the parent's parent and so on up to node 0."""
        numbers = []
        parent = self.node(number)[2]
        while parent is not None:
            numbers.append(parent)
            parent = self._nodes[parent][2]
        return tuple(numbers)

    def graph(self):
        """Return the tuple of the rows of all nodes, which are closed."""
        if self.open_nodes():
            raise Refused("open")
        return tuple([(kind, term, children, target, fresh)
                      for term, kind, _, children, target, fresh in self._nodes])

    def auto(self):
        """Close all nodes by the rule; return the number of moves."""
        moves = 0
        waiting = self.open_nodes()
        while waiting:
            make_move(self, waiting[0])
            moves += 1
            waiting = self.open_nodes()
        return moves

    def journal(self):
        """Return the text of the start and of all moves that were made."""
        return "".join([f"{line}\n" for line in self._lines])

    def _is_node(self, number):
        """Tell whether there is a node with this number."""
        return 0 <= number < len(self._nodes)

    def _open_term(self, number):
        """Return the term of an open node; raise Refused if it is none."""
        if not self._is_node(number) or self._nodes[number][1] != "open":
            raise Refused("not open")
        return self._nodes[number][0]

    def _closed(self, number, kind, terms, target, fresh, line):
        """Close a node, with new open nodes of the terms as its children; return their numbers."""
        first = len(self._nodes)
        if first + len(terms) > MOST_NODES:
            raise Refused("nodes")
        if any([size(part) > LARGEST_TERM for part in terms]):
            raise Refused("size")
        children = tuple(range(first, first + len(terms)))
        term, _, parent, _, _, _ = self._nodes[number]
        self._nodes[number] = (term, kind, parent, children, target, fresh)
        self._nodes.extend([(part, "open", number, (), None, ()) for part in terms])
        self._lines.append(line)
        return children
