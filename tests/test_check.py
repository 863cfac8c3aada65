import random
import unittest

from drivefold.errors import BadPaper, TooLarge, WrongPaper
from drivefold.journals import restart
from drivefold.papers import check, read_paper, write_paper
from drivefold.programtexts import read_program, write_program
from drivefold.residuals import residual
from drivefold.sessions import Session
from drivefold.termtexts import read_term, write_term
from tests.graphs import GraphMaker, changed_row, closed_session, plain_residual, plain_wrong_line
from tests.judges import rows_of, session_of
from tests.programs import ADD, MIXED, REV, random_program, random_start, rename
from tests.samples import chain
from tests.test_examples import PAPER

START = "add (add ?0 ?1) ?2"


def outcome(call, *told):
    """What the call returns, or the kind of the error and its attributes."""
    try:
        return call(*told)
    except (BadPaper, WrongPaper, TooLarge) as error:
        return (error.__class__.__name__, vars(error))


class CheckTests(unittest.TestCase):
    def wrong(self, row, start, text, program=MIXED):
        with self.assertRaises(WrongPaper, msg=text) as caught:
            check(program, read_term(start), text)
        self.assertEqual(vars(caught.exception), {"row": row})

    def bad(self, start, text, program=MIXED):
        with self.assertRaises(BadPaper, msg=text):
            check(program, read_term(start), text)

    def test_the_example_of_the_document(self):
        found, term = check(ADD, read_term(START), PAPER)
        self.assertEqual(write_program(found[1:]), "r0x0 Z ?0 ?1 = add ?0 ?1\nr0x0 (S ?0) ?1 ?2 = S (r0x0 ?0 ?1 ?2)\n")
        self.assertEqual(write_term(term), "r0x0 ?0 ?1 ?2")

    def test_no_paper(self):
        for text in ("", "left", "left : A", "open : A\n", "left : a b)\n", f"{PAPER}x", PAPER * 9, f"\n{PAPER}"):
            self.bad("A", text)
            self.bad(START, text, ADD)

    def test_another_start(self):
        self.wrong(0, "A", "left : B\n")
        self.wrong(0, "?0", "left : ?1\n")
        self.wrong(0, "S A", "exposed 1 : S B\nleft : B\n")
        self.wrong(0, "add ?0 ?1", PAPER, ADD)
        self.wrong(0, "add (add ?0 ?1) ?3", PAPER, ADD)
        self.wrong(0, "A", "exposed 1 : S A\nleft : A\n")

    def test_the_start_is_held_against_the_first_row_only(self):
        self.assertEqual(check(MIXED, read_term("S A"), "exposed 1 : S A\nleft : A\n"), (MIXED, read_term("S A")))
        self.wrong(0, "B", "left : A\nleft : B\n")

    def test_a_wrong_row(self):
        lines = PAPER.splitlines()
        for row, line in ((0, "branched 1 : add (add ?0 ?1) ?2"), (1, "stepped 3 : add ?1 ?2"), (1, "left 2 : add ?1 ?2"),
                          (2, "stepped 2 : add (S (add ?3 ?1)) ?2"), (2, "branched 3 : add (S (add ?3 ?1)) ?2"),
                          (3, "exposed : S (add (add ?3 ?1) ?2)"), (4, "folded to 3 : add (add ?3 ?1) ?2"),
                          (4, "folded to 0 by 1 : add (add ?3 ?1) ?2"), (4, "folded to 5 : add (add ?3 ?1) ?2"),
                          (4, "exposed : add (add ?3 ?1) ?2"), (4, "split of : add (add ?3 ?1) ?2"),
                          (0, "left 1 : add (add ?0 ?1) ?2")):
            changed = "".join([f"{line if at == row else told}\n" for at, told in enumerate(lines)])
            self.wrong(row, START, changed, ADD)

    def test_the_term_of_a_row_is_changed(self):
        lines = PAPER.splitlines()
        for row, parent in ((1, 0), (2, 0), (3, 2), (4, 3)):
            claim = lines[row].split(" : ")[0]
            changed = "".join([f"{told if at != row else claim + ' : A'}\n" for at, told in enumerate(lines)])
            self.wrong(parent, START, changed, ADD)

    def test_errors_in_their_order(self):
        # No paper, another start and a wrong row; then the last two; then two wrong rows.
        self.bad("A", "left 1 : B\nopen : C\n")
        self.wrong(0, "A", "left : B\nleft 1 : C\n")
        self.wrong(1, "A", "left : A\nleft 1 : B\nleft 1 : C\n")
        program = read_program("five ?0 = D ?0 ?0 A A A\n")
        big = f"C{' A' * 58}"
        large = f"split ?1 of 1 2 : five ({big})\nstepped 3 : five ?1\nleft : {big}\nleft : D ?1 ?1 A A A\n"
        self.wrong(4, f"five ({big})", f"{large}left 1 : A\n", program)
        self.wrong(0, "five", large, program)
        with self.assertRaises(TooLarge):
            check(program, read_term(f"five ({big})"), large)

    def test_a_start_that_is_no_start(self):
        self.wrong(0, "nobody", "left : nobody\n")
        self.wrong(0, f"C{' A' * 60}", f"left : C{' A' * 60}\n")
        self.assertEqual(check(MIXED, read_term(f"C{' A' * 59}"), f"left : C{' A' * 59}\n"),
                         (MIXED, read_term(f"C{' A' * 59}")))

    def test_too_many_lines(self):
        text = "stepped 1 : f0\nleft : A\nfolded to 0 : f0\n"
        for count in (199, 200):
            program = read_program("".join([f"f{number} = A\n" for number in range(count)]))
            if count == 199:
                self.assertEqual(len(check(program, read_term("f0"), text)[0]), 200)
            else:
                with self.assertRaises(TooLarge):
                    check(program, read_term("f0"), text)

    def test_deep_terms(self):
        for start in (chain("S", 59, 0), chain("not", 59, 7)):
            session = Session(MIXED, start)
            session.auto()
            self.assertEqual(check(MIXED, start, write_paper(session.graph())), residual(MIXED, session.graph()))


class ClosedSessionTests(unittest.TestCase):
    """Promise 57: papers and journals of closed sessions."""

    def check_session(self, program, session, seen):
        start, graph = session.node(0)[0], session.graph()
        text = write_paper(graph)
        wanted = outcome(residual, program, graph)
        self.assertEqual(outcome(check, program, start, text), wanted)
        plain = plain_residual(program, graph)
        self.assertEqual(wanted, ("TooLarge", {}) if plain is None else plain)
        again = restart(program, session.journal())
        self.assertEqual((rows_of(again), again.journal()), (rows_of(session), session.journal()))
        self.assertEqual(again.graph(), graph)
        word = "too large" if plain is None else "read off"
        seen[word] = seen.get(word, 0) + 1

    def test_known_sessions(self):
        for program, text in ((ADD, START), (REV, "rev ?0 Nil"), (MIXED, "map (map ?0 not) (add one)"), (MIXED, "loop"),
                              (MIXED, "six ?0 (twice ?1 ?2)"), (MIXED, "grow (S ?999)"), (MIXED, "Z"), (MIXED, "?0")):
            session = session_of(program, text)
            self.assertGreater(session.auto(), 0)
            self.check_session(program, session, {})

    def test_random_sessions(self):
        source = random.Random(57)
        seen = {}
        for _ in range(250):
            program = random_program(source)
            start = random_start(source, source.randint(2, 14), [4, 2, 7])
            self.check_session(program, closed_session(source, program, start), seen)
            start = rename(random_start(source, source.randint(3, 9), [4, 2]), source, ["map", "add", "k", "twice"])
            self.check_session(MIXED, closed_session(source, MIXED, start), seen)
        program = read_program("f ?0 = B ?0 ?0\ng A = f\ng (B ?0) = C ?0 ?0\nh ?0 = g (f ?0)\n")
        for _ in range(250):
            start = random_start(source, source.randint(30, 60), [4, 2])
            self.check_session(program, closed_session(source, program, start), seen)
        self.assertGreater(min(seen["too large"], seen["read off"]), 5, seen)


class OtherPaperTests(unittest.TestCase):
    """Whatever other paper: the errors are those of the plain readings."""

    def test_random_papers(self):
        source = random.Random(41)
        seen = {}
        for _ in range(500):
            program = random_program(source)
            start = random_start(source, source.randint(2, 10), [4, 2, 7])
            graph = list(GraphMaker(source, program, start, start).graph())
            for _ in range(source.randint(0, 2)):
                number = source.randrange(len(graph))
                graph[number] = changed_row(source, graph, number)
            text = write_paper(tuple(graph))
            self.assertEqual(read_paper(text), tuple(graph))
            wanted = plain_residual(program, graph) if plain_wrong_line(program, graph) is None else None
            if graph[0][1] != start:
                wanted = ("WrongPaper", {"row": 0})
            elif plain_wrong_line(program, graph) is not None:
                wanted = ("WrongPaper", {"row": plain_wrong_line(program, graph)})
            elif wanted is None:
                wanted = ("TooLarge", {})
            self.assertEqual(outcome(check, program, start, text), wanted)
            word = wanted[0] if isinstance(wanted[0], str) else "right"
            seen[word] = seen.get(word, 0) + 1
        self.assertGreater(min(seen["WrongPaper"], seen["right"]), 100, seen)


if __name__ == "__main__":
    unittest.main()
