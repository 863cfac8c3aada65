import unittest
from unittest import mock

from drivefold import sessions
from drivefold.programtexts import read_program
from drivefold.terms import size
from drivefold.termtexts import write_term
from tests.judges import made, parts_of, rows_of, session_of
from tests.programs import ADD, MIXED, REV
from tests.readings import plain_within
from tests.samples import chain


class WayTests(unittest.TestCase):
    def test_from_the_parent_up_to_node_0(self):
        session = session_of(ADD, "add (add ?0 ?1) ?2")
        session.drive(0)
        session.drive(2)
        session.expose(3)
        self.assertEqual([session.way(number) for number in range(5)], [(), (0,), (0,), (2, 0), (3, 2, 0)])

    def test_closed_and_folded_nodes_have_a_way(self):
        session = session_of(ADD, "add (add ?0 ?1) ?2")
        session.drive(0)
        session.drive(2)
        session.expose(3)
        session.fold(4, 0)
        session.leave(1)
        self.assertEqual([session.way(number) for number in (1, 4)], [(0,), (3, 2, 0)])


class WhistleTests(unittest.TestCase):
    def refused(self, session, number):
        self.assertEqual(made(session, ("drive", number)), "whistle")

    def test_the_example_of_the_document(self):
        session = session_of(REV, "rev ?0 Nil")
        session.drive(0)
        self.assertEqual(session.whistle(2), 0)
        self.assertIsNone(session.whistle(0))
        self.assertIsNone(session.whistle(1))

    def test_branched_nodes_are_held_against_branched_ones_only(self):
        program = read_program("f A = A\nf (B ?0) = g (f ?0)\ng ?0 = ?0\n")
        session = session_of(program, "g (f ?0)")
        session.drive(0)
        session.drive(1)
        self.assertEqual(write_term(session.node(3)[0]), "g (f ?1)")
        # Node 0 lies within node 3, but it is not driven as far as the branched node.
        self.assertIsNone(session.whistle(3))
        self.assertEqual(session.drive(3), (4,))
        self.assertEqual(session.whistle(4), 1)
        self.refused(session, 4)

    def test_stepped_nodes_are_held_against_stepped_ones_up_to_a_branched_one(self):
        program = read_program("f ?0 = C (f ?0) (g ?0)\ng A = f A\ng (B ?0) = f ?0\n")
        session = session_of(program, "f ?0")
        session.drive(0)
        session.expose(1)
        self.assertEqual(session.whistle(2), 0)
        self.refused(session, 2)
        self.assertIsNone(session.whistle(3))
        session.drive(3)
        self.assertEqual(write_term(session.node(5)[0]), "f ?1")
        self.assertIsNone(session.whistle(5))
        self.assertEqual(session.drive(5), (6,))
        session.expose(6)
        self.assertEqual(session.whistle(7), 5)
        self.assertEqual(session.whistle(8), 3)

    def test_the_nearest_node_is_told(self):
        program = read_program("f ?0 = D (g ?0) (f ?0)\ng ?0 = f (S ?0)\n")
        session = session_of(program, "E (f ?0) (g (f ?0))")
        session.expose(0)
        session.drive(2)
        self.assertEqual(write_term(session.node(3)[0]), "f (S (f ?0))")
        self.assertIsNone(session.whistle(3))
        session.drive(3)
        session.expose(4)
        self.assertEqual([write_term(session.node(number)[0]) for number in (5, 6)], ["g (S (f ?0))", "f (S (f ?0))"])
        self.assertEqual(session.whistle(5), 2)
        self.assertEqual(session.whistle(6), 3)
        program = read_program("h A ?0 ?1 = A\nh (B ?0) ?1 ?2 = h ?0 ?2 ?1\n")
        session = session_of(program, "h ?0 X Y")
        session.drive(0)
        session.drive(2)
        self.assertEqual(write_term(session.node(4)[0]), "h ?2 X Y")
        self.assertEqual(session.whistle(4), 0)

    def test_a_term_lies_within_a_larger_one(self):
        session = session_of(MIXED, "grow ?0")
        session.drive(0)
        self.assertEqual(session.whistle(1), 0)
        session = session_of(MIXED, "id (id (id A))")
        self.assertEqual(session.drive(0), (1,))
        self.assertIsNone(session.whistle(1))
        self.assertEqual(session.drive(1), (2,))
        self.assertEqual(session.drive(2), (3,))

    def test_nodes_that_cannot_be_driven_have_no_whistle(self):
        program = read_program("f ?0 ?1 = ?1 (f ?0 ?1)\ng ?0 = A\nk ?0 ?1 ?2 = A\n")
        for text, wanted in (("f A C", None), ("f A ?3", None), ("f A (k A)", None), ("f A g", 0), ("f A (g A)", 0)):
            session = session_of(program, text)
            session.drive(0)
            self.assertTrue(plain_within(session.node(0)[0], session.node(1)[0]))
            self.assertEqual(session.whistle(1), wanted, text)

    def test_closed_nodes(self):
        session = session_of(REV, "rev ?0 Nil")
        session.drive(0)
        session.split(2, ("rev", ((2, ()), (0, ()))), parts_of("0 = Cons ?1 Nil"))
        self.assertEqual(session.whistle(2), 0)
        self.assertIsNone(session.whistle(3))
        session.drive(3)
        session.fold(6, 3)
        self.assertEqual(session.whistle(6), 3)
        self.assertIsNone(session.whistle(3))
        session.leave(1)
        self.assertIsNone(session.whistle(1))

    def test_only_nodes_on_the_way(self):
        session = session_of(MIXED, "C (id A) (id (S A)) (not ?0) (not (not ?0))")
        session.expose(0)
        session.drive(1)
        session.drive(3)
        self.assertIsNone(session.whistle(2))
        self.assertIsNone(session.whistle(4))

    def test_nodes_in_between_are_passed(self):
        program = read_program("f ?0 = S (f ?0)\ng A = A\ng (B ?0) = S (g ?0)\n")
        session = session_of(program, "f (S Z)")
        session.drive(0)
        session.expose(1)
        session.split(2, ("f", ((0, ()),)), parts_of("0 = S Z"))
        self.assertIsNone(session.whistle(3))
        session.drive(3)
        session.expose(5)
        self.assertEqual(write_term(session.node(6)[0]), "f ?0")
        self.assertEqual(session.whistle(6), 3)
        self.assertEqual(session.whistle(2), 0)

    def test_deep_terms(self):
        session = sessions.Session(MIXED, ("grow", (chain("S", 57, 0),)))
        self.assertEqual(session.drive(0), (1,))
        self.assertEqual(size(session.node(1)[0]), 60)
        self.assertEqual(session.whistle(1), 0)


class EndingTests(unittest.TestCase):
    """No session is endless, also without the bounds of nodes and sizes."""

    def check(self, program, start, least, most):
        with mock.patch.object(sessions, "MOST_NODES", 10 ** 9), mock.patch.object(sessions, "LARGEST_TERM", 10 ** 9):
            session = session_of(program, start)
            # The judge drives whatever may be driven, and takes nothing else as long as that lasts.
            while session.open_nodes():
                number = session.open_nodes()[0]
                if isinstance(made(session, ("drive", number)), str):
                    if isinstance(made(session, ("expose", number)), str):
                        session.leave(number)
        rows = rows_of(session)
        self.assertTrue(least <= len(rows) <= most, len(rows))
        for number, (term, kind, _, children, _, _) in enumerate(rows):
            if kind == "exposed":
                self.assertTrue(all([len(str(rows[child][0])) < len(str(term)) for child in children]))
            if kind == "branched":
                for other in session.way(number):
                    self.assertFalse(rows[other][1] == "branched" and plain_within(rows[other][0], term))

    def test_driving_comes_to_an_end(self):
        self.check(ADD, "add (add (add ?0 ?1) ?2) (add ?3 ?0)", 10, 200)
        self.check(REV, "rev (Cons ?0 ?1) (Cons ?2 Nil)", 4, 20)
        self.check(MIXED, "grow loop", 2, 3)
        self.check(MIXED, "map (map ?0 (twice (add one))) (twice not)", 5, 200)
        self.check(MIXED, "twice (twice (twice grow)) ?0", 4, 200)

    def test_more_than_forty_nodes_come_to_an_end(self):
        program = read_program(
            "f A = A\n"
            "f (B ?0) = C (f ?0) (g ?0)\n"
            "g A = A\n"
            "g (B ?0) = C (f ?0) (g ?0)\n"
            "h ?0 ?1 ?2 = D (f ?0) (g ?1) (f ?2) (g ?0) (k ?1)\n"
            "k A = A\n"
            "k (B ?0) = D (f ?0) (g ?0) (k ?0)\n")
        self.check(program, "h ?0 ?1 ?2", 60, 2000)


if __name__ == "__main__":
    unittest.main()
