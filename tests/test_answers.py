"""The residual program answers as the source, whatever was done to the start and whoever wrote the paper."""

import random
import unittest

from drivefold.errors import TooLarge
from drivefold.papers import check, write_paper, wrong_line
from drivefold.programtexts import read_program
from drivefold.residuals import residual
from drivefold.running import run
from drivefold.sessions import Session
from drivefold.terms import put
from drivefold.termtexts import read_term, write_term
from tests.answers import check_residual
from tests.graphs import GraphMaker, changed_row, closed_session
from tests.judges import parts_of, session_of
from tests.programs import ADD, MIXED, REV, random_program, random_start, rename, terms

LISTS = read_program(
    "app Nil ?0 = ?0\n"
    "app (Cons ?0 ?1) ?2 = Cons ?0 (app ?1 ?2)\n"
    "map Nil ?0 = Nil\n"
    "map (Cons ?0 ?1) ?2 = Cons (?2 ?0) (map ?1 ?2)\n"
    "len Nil = Z\n"
    "len (Cons ?0 ?1) = S (len ?1)\n"
    "add Z ?0 = ?0\n"
    "add (S ?0) ?1 = S (add ?0 ?1)\n"
    "o ?0 ?1 ?2 = ?0 (?1 ?2)\n"
    "loop = loop\n")
LIST_TERMS = terms(
    "Nil", "Cons A Nil", "Cons (S Z) (Cons Z Nil)", "Cons loop (Cons A Nil)", "app Nil (Cons A Nil)", "loop", "Z", "S Z",
    "S (S (S Z))", "add (S Z) (S Z)", "len (Cons A Nil)", "len Z", "add (S Z)", "add", "o (add (S Z)) (add (S Z))", "S",
    "map (Cons Z Nil) (add (S Z))", "Cons A A", "Nil A")


def list_term(source):
    return source.choice(LIST_TERMS)


def small_term(source):
    return random_start(source, source.randint(1, 6), [])


def mixed_term(source):
    return rename(small_term(source), source, ["not", "add", "k", "one", "twice", "id"])


class KnownTests(unittest.TestCase):
    def check_steps(self, program, session, *rows):
        """A row holds the terms that are put in, the shown value or the ending, and the steps before and behind."""
        found, term = residual(program, session.graph())
        start = session.node(0)[0]
        for parts, wanted, before, behind in rows:
            for functions, whole, steps in ((program, start, before), (found, term, behind)):
                ending, value, done = run(functions, put(whole, parts_of(*parts)), 500)
                self.assertEqual((ending if value is None else write_term(value), done), (wanted, steps), parts)

    def test_the_example_of_the_document(self):
        session = session_of(ADD, "add (add ?0 ?1) ?2")
        session.drive(0)
        session.drive(2)
        session.expose(3)
        session.fold(4, 0)
        session.leave(1)
        self.check_steps(
            ADD, session,
            (("0 = Z", "1 = Z", "2 = Z"), "Z", 2, 2),
            (("0 = S (S (S Z))", "1 = S Z", "2 = Z"), "S (S (S (S Z)))", 9, 6),
            (("0 = S A", "1 = Z", "2 = Z"), "error", 2, 1),
            (("0 = S (S Z)", "1 = add", "2 = Z"), "error", 5, 3),
            (("0 = Z", "1 = S Z", "2 = add"), "S *", 3, 3))

    def test_steps_of_a_node_that_is_no_function_are_saved(self):
        session = session_of(MIXED, "k (id (id ?0)) loop")
        session.auto()
        self.check_steps(MIXED, session, (("0 = S Z",), "S Z", 3, 0), (("0 = not True",), "False", 4, 1),
                         (("0 = not",), "*", 3, 0), (("0 = not Nil",), "error", 3, 0))

    def test_what_is_endless_stays_endless(self):
        for text in ("loop", "grow ?0", "not loop", "S loop", "not (grow ?0)"):
            session = session_of(MIXED, text)
            session.auto()
            found, term = residual(MIXED, session.graph())
            whole = put(term, ((0, read_term("A")),))
            self.assertEqual(run(found, whole, 300)[0], "open", text)

    def test_an_error_is_not_passed_over(self):
        session = session_of(MIXED, "C loop (not Nil)")
        session.auto()
        self.check_steps(MIXED, session, ((), "open", 500, 500))
        session = session_of(MIXED, "C (not Nil) loop")
        session.auto()
        self.check_steps(MIXED, session, ((), "error", 0, 0))

    def test_functions_that_wait(self):
        session = session_of(MIXED, "twice ?0 ?1")
        session.auto()
        self.check_steps(MIXED, session, (("0 = add one", "1 = S"), "S (S S)", 11, 10),
                         (("0 = k", "1 = A"), "*", 1, 0), (("0 = twice", "1 = not"), "*", 1, 0),
                         (("0 = not", "1 = True"), "True", 3, 2))


class RandomTests(unittest.TestCase):
    def check_session(self, source, program, start, made, seen):
        session = closed_session(source, program, start)
        try:
            found = residual(program, session.graph())
        except TooLarge:
            return
        check_residual(self, source, program, start, found, made, seen)

    def check_paper(self, source, program, start, graph, made, seen):
        try:
            found = check(program, start, write_paper(graph))
        except TooLarge:
            return
        check_residual(self, source, program, start, found, made, seen)

    def check_seen(self, seen, least):
        for word in ("value", "error", "open", "in as many steps", "in fewer steps"):
            self.assertGreater(seen[word], least, seen)
        self.assertLess(seen.get("too large", 0), 50, seen)

    def test_sessions_of_random_programs(self):
        source = random.Random(21)
        seen = {}
        for _ in range(500):
            start = random_start(source, source.randint(2, 12), [4, 2, 7])
            self.check_session(source, random_program(source), start, small_term, seen)
        self.check_seen(seen, 50)

    def test_sessions_of_known_programs(self):
        source = random.Random(22)
        seen = {}
        for _ in range(150):
            start = random_start(source, source.randint(3, 10), [4, 2])
            self.check_session(source, MIXED, rename(start, source, ["map", "add", "not", "twice", "id"]), mixed_term, seen)
            self.check_session(source, LISTS, rename(start, source, ["app", "map", "len", "add", "o"]), list_term, seen)
        for text in ("app (app ?0 ?1) ?2", "len (app ?0 ?1)", "map (map ?0 ?1) ?2", "add (len ?0) (len ?1)",
                     "o (add ?0) (add ?1) ?2", "len (map (app ?0 ?1) ?2)", "app ?0 ?0", "app (map ?0 ?1) (map ?0 ?1)"):
            for _ in range(8):
                self.check_session(source, LISTS, read_term(text), list_term, seen)
        self.check_seen(seen, 50)

    def test_papers_that_are_no_sessions(self):
        source = random.Random(23)
        seen = {}
        for _ in range(400):
            program = random_program(source)
            starts = [random_start(source, source.randint(2, 10), [4, 2, 7]) for _ in range(source.randint(1, 4))]
            graph = GraphMaker(source, program, *starts).graph()
            self.check_paper(source, program, starts[0], graph, small_term, seen)
            start = read_term(source.choice(["app (app ?0 ?1) ?2", "map (map ?0 ?1) ?2", "app ?0 ?0", "len (app ?0 ?1)"]))
            graph = GraphMaker(source, LISTS, start, read_term("app ?3 ?4"), read_term("map ?1 ?0")).graph()
            self.check_paper(source, LISTS, start, graph, list_term, seen)
        self.check_seen(seen, 50)

    def test_papers_that_were_changed(self):
        source = random.Random(24)
        seen, taken = {}, 0
        for _ in range(500):
            program = random_program(source)
            start = random_start(source, source.randint(2, 10), [4, 2, 7])
            session = Session(program, start)
            session.auto()
            graph = list(session.graph())
            for _ in range(6):
                number = source.randrange(len(graph))
                changed = list(graph)
                changed[number] = changed_row(source, graph, number)
                if changed[0][1] == start and wrong_line(program, tuple(changed)) is None:
                    graph = changed
                    taken += 1
                    self.check_paper(source, program, start, tuple(graph), small_term, seen)
        self.assertGreater(taken, 200)
        self.check_seen(seen, 50)

    def test_the_greatest_terms(self):
        source = random.Random(25)
        seen = {}
        for _ in range(60):
            start = random_start(source, source.randint(30, 60), [4, 2, 7])
            self.check_session(source, random_program(source), start, small_term, seen)
        self.assertGreater(seen["error"], 50)

    def test_names_that_begin_like_those_of_residual_functions(self):
        program = read_program("r0x0 Nil ?0 = ?0\nr0x0 (Cons ?0 ?1) ?2 = r0x0 ?1 (Cons ?0 ?2)\nr1x3 ?0 = r0x0 ?0 Nil\n")
        session = session_of(program, "r1x3 ?0")
        session.auto()
        found, term = residual(program, session.graph())
        self.assertEqual([function[1] for function in found[2:]], ["r2x1", "r2x4"])
        for text, wanted in (("Nil", "Nil"), ("Cons A (Cons B Nil)", "Cons B (Cons A Nil)"),
                             ("r1x3 (Cons A (Cons B Nil))", "Cons A (Cons B Nil)")):
            ending, value, _ = run(found, put(term, parts_of(f"0 = {text}")), 100)
            self.assertEqual((ending, write_term(value)), ("value", wanted))

    def test_lists_that_are_reversed(self):
        source = random.Random(26)
        seen = {}
        made = lambda source: read_term(source.choice(["Nil", "Cons A Nil", "Cons A (Cons (rev Nil Nil) Nil)", "A", "rev"]))
        for text in ("rev ?0 Nil", "rev ?0 (rev ?1 ?2)", "rev (rev ?0 Nil) Nil", "rev ?0 ?0"):
            for _ in range(20):
                self.check_session(source, REV, read_term(text), made, seen)
        self.assertGreater(min(seen["value"], seen["error"]), 50)


if __name__ == "__main__":
    unittest.main()
