"""The examples of sections 29 and 30, from the first line to the last."""

import unittest

from drivefold.errors import Refused
from drivefold.journals import restart
from drivefold.lying import within
from drivefold.matching import generalize
from drivefold.papers import check, read_paper, write_paper
from drivefold.programtexts import read_program, write_program
from drivefold.residuals import residual
from drivefold.running import run
from drivefold.sessions import Session
from drivefold.termtexts import read_term, write_term

ADD = "add Z ?0 = ?0\nadd (S ?0) ?1 = S (add ?0 ?1)\n"
REV = "rev Nil ?0 = ?0\nrev (Cons ?0 ?1) ?2 = rev ?1 (Cons ?0 ?2)\n"
PAPER = (
    "branched 1 2 : add (add ?0 ?1) ?2\n"
    "left : add ?1 ?2\n"
    "stepped 3 : add (S (add ?3 ?1)) ?2\n"
    "exposed 4 : S (add (add ?3 ?1) ?2)\n"
    "folded to 0 : add (add ?3 ?1) ?2\n")


class FirstExampleTests(unittest.TestCase):
    def setUp(self):
        self.program = read_program(ADD)
        self.start = read_term("add (add ?0 ?1) ?2")
        self.session = Session(self.program, self.start)
        self.assertEqual(self.session.drive(0), (1, 2))
        self.assertEqual(self.session.node(0)[1], "branched")
        self.assertEqual(write_term(self.session.node(1)[0]), "add ?1 ?2")
        self.assertEqual(write_term(self.session.node(2)[0]), "add (S (add ?3 ?1)) ?2")
        self.assertEqual(self.session.drive(2), (3,))
        self.assertEqual(self.session.node(2)[1], "stepped")
        self.assertEqual(write_term(self.session.node(3)[0]), "S (add (add ?3 ?1) ?2)")
        self.assertEqual(self.session.expose(3), (4,))
        self.assertEqual(self.session.fold(4, 0), ())
        self.assertEqual(self.session.leave(1), ())
        self.assertEqual(self.session.open_nodes(), ())

    def test_the_residual_program(self):
        program, term = residual(self.program, self.session.graph())
        self.assertEqual(write_program(program), (
            f"{ADD}"
            "r0x0 Z ?0 ?1 = add ?0 ?1\n"
            "r0x0 (S ?0) ?1 ?2 = S (r0x0 ?0 ?1 ?2)\n"))
        self.assertEqual(write_term(term), "r0x0 ?0 ?1 ?2")

    def test_the_paper(self):
        self.assertEqual(write_paper(self.session.graph()), PAPER)
        self.assertEqual(read_paper(PAPER), self.session.graph())
        self.assertEqual(check(self.program, self.start, PAPER), residual(self.program, self.session.graph()))

    def test_the_journal(self):
        self.assertEqual(restart(self.program, self.session.journal()).graph(), self.session.graph())


class SmallExampleTests(unittest.TestCase):
    def test_within(self):
        for first, second, wanted in (
                ("add ?0 ?1", "add (S ?2) ?1", True), ("add ?0 ?1", "add Z ?1", False), ("add Z", "add Z ?1", True)):
            self.assertIs(within(read_term(first), read_term(second)), wanted)

    def test_generalize(self):
        self.assertEqual(generalize(read_term("f A B"), read_term("g B")), (
            read_term("?0 B"), (read_term("f A"),), (read_term("g"),)))

    def test_run(self):
        program = read_program(ADD)
        self.assertEqual(run(program, read_term("add (S Z) (S Z)"), 10), ("value", read_term("S (S Z)"), 2))
        self.assertEqual(run(program, read_term("Cons (add Z) Nil"), 0), (
            "value", ("Cons", (("*", ()), ("Nil", ()))), 0))
        self.assertEqual(run(program, read_term("add Nil Z"), 0), ("error", None, 0))


class SecondExampleTests(unittest.TestCase):
    def test_the_moves(self):
        session = Session(read_program(REV), read_term("rev ?0 Nil"))
        session.drive(0)
        self.assertEqual(write_term(session.node(2)[0]), "rev ?2 (Cons ?1 Nil)")
        self.assertEqual(session.whistle(2), 0)
        with self.assertRaises(Refused) as caught:
            session.drive(2)
        self.assertEqual(caught.exception.reason, "whistle")
        self.assertEqual(session.split(2, read_term("rev ?2 ?0"), ((0, read_term("Cons ?1 Nil")),)), (3, 4))
        self.assertEqual(session.drive(3), (5, 6))
        self.assertEqual(write_term(session.node(6)[0]), "rev ?4 (Cons ?3 ?0)")
        self.assertEqual(session.fold(6, 3), (7,))
        self.assertEqual(write_term(session.node(7)[0]), "Cons ?3 ?0")

    def test_the_rule_makes_these_moves_too(self):
        session = Session(read_program(REV), read_term("rev ?0 Nil"))
        session.auto()
        for line in ("drive 0", "split 2 rev ?2 ?0 | ?0 = Cons ?1 Nil", "drive 3", "fold 6 3"):
            self.assertIn(line, session.journal().splitlines())
        program, term = residual(read_program(REV), session.graph())
        self.assertEqual(write_program(program), (
            f"{REV}"
            "r0x0 Nil = Nil\n"
            "r0x0 (Cons ?0 ?1) = r0x3 ?1 (Cons ?0 Nil)\n"
            "r0x3 Nil ?0 = ?0\n"
            "r0x3 (Cons ?0 ?1) ?2 = r0x3 ?1 (Cons ?0 ?2)\n"))
        self.assertEqual(write_term(term), "r0x0 ?0")


if __name__ == "__main__":
    unittest.main()
