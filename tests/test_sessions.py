import random
import unittest

from drivefold.errors import Refused
from drivefold.programtexts import read_program
from drivefold.sessions import Session
from drivefold.terms import same, size
from drivefold.termtexts import read_term, write_term
from tests.judges import check_move, check_session, made, parts_of, random_move, rows_of, session_of, texts_of
from tests.programs import ADD, MIXED, REV, random_program, random_start
from tests.samples import chain


class SessionTests(unittest.TestCase):
    def refused(self, reason, session, *move):
        before, lines = rows_of(session), session.journal()
        self.assertEqual(made(session, move), reason, move)
        self.assertEqual((rows_of(session), session.journal()), (before, lines))

    def split(self, session, number, body, *parts):
        return session.split(number, read_term(body), parts_of(*parts))

    def refused_split(self, reason, session, number, body, *parts):
        self.refused(reason, session, "split", number, read_term(body), parts_of(*parts))

    def check_texts(self, session, *wanted):
        self.assertEqual(texts_of(session), list(wanted))


class ExampleTests(SessionTests):
    def test_the_first_example_of_the_document(self):
        session = session_of(ADD, "add (add ?0 ?1) ?2")
        self.assertEqual(session.drive(0), (1, 2))
        self.check_texts(session, "branched: add (add ?0 ?1) ?2", "open: add ?1 ?2", "open: add (S (add ?3 ?1)) ?2")
        self.assertEqual(session.drive(2), (3,))
        self.assertEqual(session.expose(3), (4,))
        self.assertEqual(session.fold(4, 0), ())
        self.assertEqual(session.leave(1), ())
        self.check_texts(
            session, "branched: add (add ?0 ?1) ?2", "left: add ?1 ?2", "stepped: add (S (add ?3 ?1)) ?2",
            "exposed: S (add (add ?3 ?1) ?2)", "folded: add (add ?3 ?1) ?2")
        self.assertEqual(session.graph(), (
            ("branched", read_term("add (add ?0 ?1) ?2"), (1, 2), None, ()),
            ("left", read_term("add ?1 ?2"), (), None, ()),
            ("stepped", read_term("add (S (add ?3 ?1)) ?2"), (3,), None, ()),
            ("exposed", read_term("S (add (add ?3 ?1) ?2)"), (4,), None, ()),
            ("folded", read_term("add (add ?3 ?1) ?2"), (), 0, ())))

    def test_the_second_example_of_the_document(self):
        session = session_of(REV, "rev ?0 Nil")
        self.assertEqual(session.drive(0), (1, 2))
        self.assertEqual(write_term(session.node(2)[0]), "rev ?2 (Cons ?1 Nil)")
        self.assertEqual(session.whistle(2), 0)
        self.refused("whistle", session, "drive", 2)
        self.assertEqual(self.split(session, 2, "rev ?2 ?0", "0 = Cons ?1 Nil"), (3, 4))
        self.assertEqual(session.drive(3), (5, 6))
        self.assertEqual(write_term(session.node(6)[0]), "rev ?4 (Cons ?3 ?0)")
        self.assertEqual(session.fold(6, 3), (7,))
        self.assertEqual(write_term(session.node(7)[0]), "Cons ?3 ?0")


class ExposeTests(SessionTests):
    def check(self, text, *wanted, program=MIXED):
        session = session_of(program, text)
        self.assertEqual(session.expose(0), tuple(range(1, len(wanted) + 1)))
        self.check_texts(session, f"exposed: {text}", *[f"open: {part}" for part in wanted])

    def test_values(self):
        self.check("Cons (not ?0) Nil", "not ?0", "Nil")
        self.check("Z")
        self.check("map (not ?3)", "not ?3")
        self.check("not")
        self.check("twice loop", "loop")

    def test_unknowns_as_heads(self):
        self.check("?5")
        self.check("?5 (not True) loop", "not True", "loop")

    def test_no_value(self):
        for text in ("not True", "not ?0", "loop", "not Nil", "not (?0 A)", "not (?0 A) B", "id ?0", "map ?0 id"):
            self.refused("no value", session_of(MIXED, text), "expose", 0)

    def test_not_open(self):
        session = session_of(MIXED, "Cons ?0 loop")
        session.expose(0)
        session.leave(2)
        for number in (0, 2, 3, 40, -1, -2, 1000):
            self.refused("not open", session, "expose", number)

    def test_not_open_is_told_first(self):
        session = session_of(MIXED, "loop")
        session.drive(0)
        self.refused("not open", session, "expose", 0)
        self.refused("no value", session, "expose", 1)

    def test_no_more_than_forty_nodes(self):
        session = session_of(ADD, f"C{' A' * 38} (S Z)")
        self.assertEqual(session.expose(0), tuple(range(1, 40)))
        self.assertEqual(session.count(), 40)
        self.refused("nodes", session, "expose", 39)
        self.assertEqual(session.expose(1), ())
        self.refused("nodes", session_of(ADD, f"C{' A' * 40}"), "expose", 0)
        self.refused("no value", session_of(ADD, f"add Nil{' A' * 40}"), "expose", 0)


class DriveTests(SessionTests):
    def test_steps_and_branches(self):
        session = session_of(MIXED, "map (id ?4) not")
        self.assertEqual(session.drive(0), (1,))
        self.assertEqual(session.drive(1), (2, 3))
        self.check_texts(session, "stepped: map (id ?4) not", "branched: map ?4 not", "open: Nil",
                         "open: Cons (not ?5) (map ?6 not)")

    def test_nothing_to_drive(self):
        for text in ("Z", "S ?0", "not", "map ?0", "?0", "?0 A", "not Nil", "not (?0 A)"):
            self.refused("nothing to drive", session_of(MIXED, text), "drive", 0)

    def test_the_whistle(self):
        session = session_of(MIXED, "loop")
        session.drive(0)
        self.refused("whistle", session, "drive", 1)
        self.refused("not open", session, "drive", 0)
        self.refused("not open", session, "drive", 2)
        self.refused("not open", session, "drive", -1)

    def test_nothing_to_drive_is_told_before_the_whistle(self):
        # A term that cannot be driven has no whistle, whatever lies within it.
        session = session_of(MIXED, "id (not Nil (id (not Nil)))")
        session.drive(0)
        self.refused("nothing to drive", session, "drive", 1)

    def test_no_more_than_forty_nodes(self):
        session = session_of(MIXED, f"C{' A' * 36} (not ?0) (id A)")
        session.expose(0)
        self.assertEqual(session.count(), 39)
        self.refused("nodes", session, "drive", 37)
        self.assertEqual(session.drive(38), (39,))
        self.refused("nodes", session, "drive", 37)
        self.assertEqual(session.leave(37), ())

    def test_a_size_of_60_and_of_61(self):
        program = read_program("f ?0 = D ?0 ?0\ng A = B\ng (C ?0) = D ?0 ?0 ?0 ?0\n")
        self.assertEqual(session_of(program, f"f A{' A' * 57}").drive(0), (1,))
        self.refused("size", session_of(program, f"f A{' A' * 58}"), "drive", 0)
        self.assertEqual(session_of(program, f"g ?0{' A' * 55}").drive(0), (1, 2))
        self.refused("size", session_of(program, f"g ?0{' A' * 56}"), "drive", 0)

    def test_the_whistle_is_told_before_nodes_and_nodes_before_size(self):
        program = read_program("f ?0 = f (D ?0 ?0)\ng A = B\ng (C ?0) = D ?0 ?0 ?0 ?0\nid ?0 = ?0\n")
        session = session_of(program, f"f (C{' A' * 27})")
        session.drive(0)
        self.assertEqual(size(session.node(1)[0]), 58)
        self.refused("whistle", session, "drive", 1)
        session = session_of(program, f"H{' A' * 37} (id (f A))")
        session.expose(0)
        session.drive(38)
        self.assertEqual(session.count(), 40)
        self.refused("nodes", session, "drive", 39)
        program = read_program(f"f A = D{' A' * 61}\nid ?0 = ?0\n")
        session = session_of(program, f"H{' A' * 38} (f A)")
        session.expose(0)
        self.refused("nodes", session, "drive", 39)
        session = session_of(program, f"H{' A' * 37} (f A)")
        session.expose(0)
        self.refused("size", session, "drive", 38)


class SplitTests(SessionTests):
    def test_the_body_and_then_the_parts(self):
        session = session_of(MIXED, "map (Cons ?2 Nil) (k (not ?2))")
        self.assertEqual(self.split(session, 0, "map ?7 (k ?0)", "0 = not ?2", "7 = Cons ?2 Nil"), (1, 2, 3))
        self.check_texts(session, "split: map (Cons ?2 Nil) (k (not ?2))", "open: map ?7 (k ?0)", "open: not ?2",
                         "open: Cons ?2 Nil")
        self.assertEqual(session.node(0)[5], (0, 7))
        self.assertEqual(session.node(0)[3:5], ((1, 2, 3), None))

    def test_unknowns_as_heads(self):
        session = session_of(MIXED, "map (Cons A Nil) not")
        self.assertEqual(self.split(session, 0, "?0 not", "0 = map (Cons A Nil)"), (1, 2))
        session = session_of(MIXED, "k (k A B) (k A C)")
        self.assertEqual(self.split(session, 0, "k (?1 B) (?1 C)", "1 = k A"), (1, 2))

    def test_an_unknown_that_stands_twice(self):
        session = session_of(MIXED, "k (S Z) (S Z)")
        self.assertEqual(self.split(session, 0, "k ?3 ?3", "3 = S Z"), (1, 2))

    def test_unknowns_up_to_999(self):
        session = session_of(MIXED, "not (S ?998)")
        self.assertEqual(self.split(session, 0, "not ?999", "999 = S ?998"), (1, 2))
        self.assertEqual(session.node(0)[5], (999,))

    def test_unknowns(self):
        session = session_of(MIXED, "k (S ?1) (S Z)")
        self.refused_split("unknowns", session, 0, "k (S ?1) (S Z)")
        self.refused_split("unknowns", session, 0, "k ?0 ?0")
        self.refused_split("unknowns", session, 0, "k ?1 (S Z)", "1 = S ?1")
        self.refused_split("unknowns", session, 0, "k ?0 ?1", "0 = S ?1", "1 = S Z")
        self.refused_split("unknowns", session, 0, "k ?0 (S Z)", "0 = S ?1", "2 = S Z")
        self.refused_split("unknowns", session, 0, "k (S ?1) (S Z)", "0 = A")
        self.refused_split("unknowns", session, 0, "k ?0 (S Z)", "0 = S ?1", "0 = S ?1")
        self.refused_split("unknowns", session, 0, "k ?0 ?2", "0 = S ?1", "2 = S Z", "0 = S ?1")

    def test_not_the_term(self):
        session = session_of(MIXED, "k (S ?1) (S Z)")
        self.refused_split("not the term", session, 0, "k ?0 (S Z)", "0 = S ?2")
        self.refused_split("not the term", session, 0, "k ?0 ?0", "0 = S ?1")
        self.refused_split("not the term", session, 0, "k ?0 ?2", "2 = S ?1", "0 = S Z")
        self.refused_split("not the term", session, 0, "k ?0 (S ?2)", "0 = S ?1")
        self.refused_split("not the term", session, 0, "id ?0", "0 = k (S ?1) (S Z)")
        self.refused_split("not the term", session, 0, "k ?0 (S Z) A", "0 = S ?1")

    def test_not_smaller(self):
        session = session_of(MIXED, "k (S ?1) Z")
        self.refused_split("not smaller", session, 0, "k (S ?1) ?0", "0 = Z")
        self.refused_split("not smaller", session, 0, "?0", "0 = k (S ?1) Z")
        self.refused_split("not smaller", session, 0, "?0 (S ?1) Z", "0 = k")
        self.refused_split("not smaller", session, 0, "k (S ?0) Z", "0 = ?1")
        self.assertEqual(self.split(session, 0, "k ?0 Z", "0 = S ?1"), (1, 2))

    def test_reasons_in_their_order(self):
        session = session_of(MIXED, "k (S ?1) Z")
        # All three do not hold here, then two, then one.
        self.refused_split("unknowns", session, 0, "k ?1 Z (k A B)", "1 = S ?1 A A A")
        self.refused_split("not the term", session, 0, "k ?0 Z (k A B)", "0 = S ?1 A A A")
        self.refused_split("not smaller", session, 0, "k (S ?1) ?0", "0 = Z")
        session.leave(0)
        self.refused_split("not open", session, 0, "k ?1 Z", "1 = S ?1")
        self.refused_split("not open", session, 1, "k ?0 Z", "0 = S ?1")
        self.refused_split("not open", session, -1, "k ?0 Z", "0 = S ?1")

    def test_no_more_than_forty_nodes(self):
        session = session_of(MIXED, f"C{' A' * 36} (S (S Z)) (k (S Z) (S A))")
        session.expose(0)
        self.assertEqual(session.count(), 39)
        self.refused_split("nodes", session, 37, "S ?0", "0 = S Z")
        self.refused_split("not smaller", session, 37, "S (S ?0)", "0 = Z")
        self.refused_split("nodes", session, 38, "k ?0 ?1", "0 = S Z", "1 = S A")
        session = session_of(MIXED, f"C{' A' * 35} (S (S Z)) (k (S Z) (S A))")
        session.expose(0)
        self.assertEqual(session.count(), 38)
        self.refused_split("nodes", session, 37, "k ?0 ?1", "0 = S Z", "1 = S A")
        self.assertEqual(self.split(session, 36, "S ?0", "0 = S Z"), (38, 39))
        self.assertEqual(session.count(), 40)

    def test_the_greatest_start(self):
        session = Session(MIXED, chain("S", 59, 0))
        self.assertEqual(session.split(0, chain("S", 30, 1), ((1, chain("S", 29, 0)),)), (1, 2))
        self.assertTrue(same(session.node(0)[0], chain("S", 59, 0)))


class FoldTests(SessionTests):
    def test_parts_that_are_no_unknowns_alone(self):
        program = read_program("f A ?0 ?1 = A\nf (B ?0) ?1 ?2 = f (?2 ?1) (S ?0) ?1\n")
        session = session_of(program, "f ?0 ?1 ?2")
        session.drive(0)
        self.check_texts(session, "branched: f ?0 ?1 ?2", "open: A", "open: f (?2 ?1) (S ?3) ?1")
        self.assertEqual(session.fold(2, 0), (3, 4))
        self.assertEqual(session.node(2), (read_term("f (?2 ?1) (S ?3) ?1"), "folded", 0, (3, 4), 0, ()))
        self.assertEqual([write_term(session.node(number)[0]) for number in (3, 4)], ["?2 ?1", "S ?3"])

    def test_parts_in_the_order_of_the_unknowns_of_the_pattern(self):
        program = read_program("g A ?0 = A\ng (B ?0) ?1 = g (S ?1) (T ?0)\nf ?0 ?1 = g ?1 ?0\n")
        session = session_of(program, "g ?7 ?3")
        session.drive(0)
        self.assertEqual(session.fold(2, 0), (3, 4))
        self.assertEqual([write_term(session.node(number)[0]) for number in (3, 4)], ["S ?3", "T ?8"])
        session = session_of(program, "C (f ?2 ?1) (f Z (S Z))")
        session.expose(0)
        session.drive(1)
        self.assertEqual(session.fold(2, 1), (4, 5))
        self.assertEqual([write_term(session.node(number)[0]) for number in (4, 5)], ["Z", "S Z"])

    def test_an_unknown_that_stands_twice_has_one_part(self):
        program = read_program("f ?0 ?1 = ?0\n")
        session = session_of(program, "C (f ?0 ?0) (f (S A) (S A)) (f (S A) (S B))")
        session.expose(0)
        session.drive(1)
        self.assertEqual(session.fold(2, 1), (5,))
        self.refused("no instance", session, "fold", 3, 1)

    def test_nodes_that_are_not_on_the_way(self):
        session = session_of(MIXED, "C (not ?0) (not ?1) (id A) (id A)")
        session.expose(0)
        session.drive(2)
        self.assertEqual(session.fold(1, 2), ())
        session.drive(3)
        self.assertEqual(session.fold(4, 3), ())
        self.assertEqual(session.node(4)[4], 3)
        self.assertIsNone(session.node(3)[4])

    def test_not_driven(self):
        session = session_of(MIXED, "C (not ?0) (not ?0) (not ?0) (k A)")
        session.expose(0)
        session.leave(3)
        for other in (0, 1, 2, 3, 4, 5, 40, -1, -5):
            self.refused("not driven", session, "fold", 1, other)
        session.drive(1)
        session.fold(2, 1)
        session.expose(4)
        for other in (2, 4, 0, 3):
            self.refused("not driven", session, "fold", 5, other)

    def test_a_split_node_is_not_driven(self):
        session = session_of(MIXED, "C (not (S Z)) (not (S Z))")
        session.expose(0)
        self.split(session, 1, "not ?0", "0 = S Z")
        self.refused("not driven", session, "fold", 2, 1)

    def test_no_instance(self):
        session = session_of(MIXED, "C (not ?0) (not Z) (k ?0) (not ?0 A) (map ?0 id)")
        session.expose(0)
        session.drive(1)
        for number in (3, 4, 5):
            self.refused("no instance", session, "fold", number, 1)
        self.assertEqual(session.fold(2, 1), (8,))

    def test_reasons_in_their_order(self):
        session = session_of(MIXED, "C (not Z) (not ?0) Z")
        session.expose(0)
        session.drive(2)
        session.leave(3)
        self.refused("not open", session, "fold", 3, 3)
        self.refused("not open", session, "fold", 3, 2)
        self.refused("not open", session, "fold", 0, 99)
        self.refused("not open", session, "fold", 99, 99)
        self.refused("not driven", session, "fold", 1, 0)
        self.refused("no instance", session, "fold", 4, 2)

    def test_no_more_than_forty_nodes(self):
        session = session_of(MIXED, f"C{' A' * 34} (id ?0) (id (S A)) (id (S A)) (id ?3)")
        session.expose(0)
        self.assertEqual(session.count(), 39)
        session.drive(35)
        self.assertEqual(session.count(), 40)
        self.refused("nodes", session, "fold", 36, 35)
        self.refused("no instance", session, "fold", 1, 35)
        self.assertEqual(session.fold(38, 35), ())


class LeaveTests(SessionTests):
    def test_any_open_node_can_be_left(self):
        for text in ("Z", "loop", "?0", "not (?0 A)", "not Nil"):
            session = session_of(MIXED, text)
            self.assertEqual(session.leave(0), ())
            self.assertEqual(session.node(0), (read_term(text), "left", None, (), None, ()))
            self.assertEqual(session.open_nodes(), ())

    def test_not_open(self):
        session = session_of(MIXED, "S Z")
        session.expose(0)
        session.leave(1)
        for number in (0, 1, 2, -1, 100):
            self.refused("not open", session, "leave", number)


class ReadingTests(SessionTests):
    def test_a_new_session(self):
        session = session_of(ADD, "add ?0 Z")
        self.assertEqual(session.count(), 1)
        self.assertEqual(session.open_nodes(), (0,))
        self.assertEqual(session.node(0), (read_term("add ?0 Z"), "open", None, (), None, ()))
        self.assertEqual(session.way(0), ())
        self.assertIsNone(session.whistle(0))
        self.assertEqual(session.journal(), "start add ?0 Z\n")
        with self.assertRaises(Refused) as caught:
            session.graph()
        self.assertEqual(caught.exception.reason, "open")

    def test_sessions_know_nothing_of_each_other(self):
        first, second = session_of(ADD, "add ?0 Z"), session_of(ADD, "add ?0 Z")
        first.drive(0)
        self.assertEqual((first.count(), second.count()), (3, 1))

    def test_open_nodes_in_ascending_order(self):
        session = session_of(MIXED, "C (S A) (S B) (S C)")
        session.expose(0)
        session.expose(2)
        self.assertEqual(session.open_nodes(), (1, 3, 4))
        session.expose(1)
        self.assertEqual(session.open_nodes(), (3, 4, 5))
        self.assertEqual(session.node(4)[2], 2)
        self.assertEqual(session.node(5)[2], 1)

    def test_no_node(self):
        session = session_of(MIXED, "S Z")
        session.expose(0)
        for number in (2, 3, 40, -1, -2, 10000):
            for ask in (session.node, session.whistle, session.way):
                with self.assertRaises(Refused) as caught:
                    ask(number)
                self.assertEqual(caught.exception.reason, "no node")

    def test_the_start_of_the_greatest_size(self):
        session = Session(MIXED, chain("not", 59, 0))
        self.assertEqual(session.drive(0), (1, 2))
        self.assertEqual(size(session.node(1)[0]), 59)
        session = Session(MIXED, ("C", (("A", ()),) * 59))
        self.refused("nodes", session, "expose", 0)


class RandomSessionTests(SessionTests):
    def check(self, source, program, start, seen):
        session = Session(program, start)
        for _ in range(60):
            if not session.open_nodes():
                break
            kind = check_move(self, program, session, random_move(source, session))
            seen[kind] = seen.get(kind, 0) + 1
        check_session(self, program, session)
        seen["closed"] = seen.get("closed", 0) + (not session.open_nodes())

    def test_random_moves(self):
        source = random.Random(15)
        seen = {}
        for _ in range(700):
            program = random_program(source)
            self.check(source, program, random_start(source, source.randint(3, 14), [4, 2, 7]), seen)
        reasons = {"not open", "no value", "nothing to drive", "whistle", "unknowns", "not the term", "not smaller",
                   "not driven", "no instance"}
        kinds = {"exposed", "stepped", "branched", "split", "folded", "left", "closed"}
        self.assertLessEqual(reasons | kinds, set(seen))
        self.assertGreater(min([seen[word] for word in reasons | kinds]), 50)

    def test_random_moves_at_the_bound_of_nodes(self):
        source = random.Random(16)
        seen = {}
        for _ in range(150):
            program = random_program(source) if source.random() < 0.5 else MIXED[:-1]
            arguments = [random_start(source, source.randint(1, 3), [4, 2]) for _ in range(source.randint(20, 35))]
            while size(("D", tuple(arguments))) > 60:
                arguments.pop()
            self.check(source, program, ("D", tuple(arguments)), seen)
        self.assertGreater(seen["nodes"], 50)

    def test_random_moves_at_the_bound_of_sizes(self):
        source = random.Random(17)
        seen = {}
        program = read_program("f ?0 = B ?0 ?0\ng A = f\ng (B ?0) = C ?0 ?0\nh ?0 = g (f ?0)\n")
        for _ in range(150):
            self.check(source, program, random_start(source, source.randint(30, 60), [4, 2]), seen)
        self.assertGreater(seen["size"], 30)


if __name__ == "__main__":
    unittest.main()
