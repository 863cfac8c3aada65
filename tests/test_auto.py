import random
import unittest

from drivefold.errors import Refused
from drivefold.journals import restart
from drivefold.programtexts import read_program
from drivefold.sessions import Session
from tests.judges import check_session, line_of, made, random_move, rows_of, session_of
from tests.programs import ADD, MIXED, REV, random_program, random_start, rename
from tests.readings import plain_auto_moves, plain_move


class AutoTests(unittest.TestCase):
    def check(self, program, text, *moves):
        session = session_of(program, text)
        self.assertEqual(session.auto(), len(moves))
        self.assertEqual(session.journal().splitlines(), [f"start {text}", *moves])
        self.assertEqual(session.open_nodes(), ())
        return session

    def test_the_example_of_the_document(self):
        self.check(REV, "rev ?0 Nil",
                   "drive 0", "expose 1", "split 2 rev ?2 ?0 | ?0 = Cons ?1 Nil", "drive 3", "expose 4", "expose 5",
                   "fold 6 3", "expose 7", "expose 8", "expose 9", "expose 10", "expose 11")

    def test_folding_is_before_driving(self):
        self.check(ADD, "add (add ?0 ?1) ?2", "drive 0", "drive 1", "drive 2", "expose 3", "expose 4", "expose 5",
                   "fold 6 1", "fold 7 0")

    def test_exposing_is_first(self):
        self.check(MIXED, "?0 (S Z)", "expose 0", "expose 1", "expose 2")
        self.check(MIXED, "k (not ?0)", "expose 0", "drive 1", "expose 2", "expose 3")

    def test_the_nearest_node_is_folded_to(self):
        program = read_program("f A = A\nf (S ?0) = C (f (S ?0))\n")
        session = session_of(program, "f ?0")
        session.drive(0)
        session.expose(2)
        session.drive(3)
        session.expose(4)
        # Node 5 is an instance of node 0, and of node 3, which is nearer.
        self.assertEqual(session.auto(), 2)
        self.assertEqual(session.journal().splitlines()[5:], ["expose 1", "fold 5 3"])

    def test_only_nodes_on_the_way_are_folded_to(self):
        self.check(MIXED, "C (id A) (id A)", "expose 0", "drive 1", "drive 2", "expose 3", "expose 4")

    def test_only_the_nearest_node_is_folded_to(self):
        program = read_program("f A = B\nf (S ?0) = D (f ?0)\nf (T ?0) = D (f (S ?0))\n")
        # The last node is an instance of f ?0, with a part, and of f (S ?0) farther away, without one.
        exposed = [f"expose {number}" for number in range(1, 31)]
        self.check(program, f"C{' A' * 30} (f (S ?0))", "expose 0", *exposed, "drive 31", "expose 32", "drive 33",
                   "expose 34", "expose 35", "expose 36", "fold 37 33", "fold 38 33", "leave 39")
        exposed.append("expose 31")
        self.check(program, f"C{' A' * 31} (f (S ?0))", "expose 0", *exposed, "drive 32", "expose 33", "drive 34",
                   "expose 35", "expose 36", "expose 37", "fold 38 34", "leave 39")

    def test_a_split_by_the_whistle(self):
        # Node 0 and node 1 have f, ?3 and the place of an application in common.
        program = read_program("f ?0 ?1 ?2 = f ?0 (S ?1) (S ?2)\n")
        session = session_of(program, "f ?3 ?3 (B ?9)")
        session.auto()
        self.assertEqual(session.journal().splitlines()[:4], [
            "start f ?3 ?3 (B ?9)", "drive 0", "split 1 f ?3 ?0 (?1 ?2) | ?0 = S ?3 | ?1 = S | ?2 = B ?9", "drive 2"])

    def test_new_unknowns_are_the_least_ones_that_the_term_has_not(self):
        program = read_program("f ?0 ?1 ?2 = f (S ?0) (S ?1) ?2\n")
        session = session_of(program, "f ?0 ?2 ?3")
        session.auto()
        self.assertEqual(session.journal().splitlines()[1:3], ["drive 0", "fold 1 0"])
        session = session_of(program, "f A B (C ?0 ?2)")
        session.auto()
        self.assertEqual(session.journal().splitlines()[1:3], [
            "drive 0", "split 1 f ?1 ?3 (C ?0 ?2) | ?1 = S A | ?3 = S B"])

    def test_unknowns_of_the_generalization_that_stand_for_the_same_part(self):
        # A and C are two unknowns there, although both have the same second part.
        session = session_of(read_program("f ?0 ?1 = f (S ?0 ?1) (S ?0 ?1)\n"), "f A C")
        session.auto()
        self.assertEqual(session.journal().splitlines()[1:3], [
            "drive 0", "split 1 f ?0 ?1 | ?0 = S A C | ?1 = S A C"])
        session = session_of(read_program("f ?0 ?1 = f (S ?1) (S ?1)\n"), "f A A")
        session.auto()
        self.assertEqual(session.journal().splitlines()[1:3], ["drive 0", "split 1 f ?0 ?0 | ?0 = S A"])

    def test_a_split_by_the_whistle_without_parts(self):
        # The second parts are unknowns alone, and so are the arguments.
        program = read_program("f A ?0 = A\nf (C ?0 ?1) ?2 = f ?0 ?1\n")
        self.check(program, "f ?0 ?0", "drive 0", "expose 1", "leave 2")

    def test_a_split_by_the_whistle_with_nothing_in_common(self):
        # The body would be an unknown, and its part the term itself.
        program = read_program("c = g (S c)\ng ?0 = T ?0\n")
        self.check(program, "c", "drive 0", "split 1 g ?0 | ?0 = S c", "drive 2", "expose 3", "expose 4", "fold 5 0",
                   "expose 6")

    def test_a_split_by_the_head(self):
        self.check(MIXED, "not (Nil A) (Nil A)", "split 0 not ?0 ?1 | ?0 = Nil A | ?1 = Nil A", "drive 1",
                   *[f"expose {number}" for number in range(2, 10)])
        session = session_of(MIXED, "map (Z A) ?1 (S ?0)")
        session.auto()
        self.assertEqual(session.journal().splitlines()[1], "split 0 map ?2 ?1 ?3 | ?2 = Z A | ?3 = S ?0")

    def test_leaving_is_last(self):
        self.check(MIXED, "not Nil", "leave 0")
        self.check(MIXED, "loop", "drive 0", "fold 1 0")
        self.check(MIXED, "map Z ?0", "leave 0")

    def test_a_session_that_is_closed(self):
        session = self.check(MIXED, "Z", "expose 0")
        self.assertEqual(session.auto(), 0)
        self.assertEqual(session.journal(), "start Z\nexpose 0\n")

    def test_a_session_in_which_moves_were_made(self):
        session = session_of(ADD, "C (add ?0 ?1) (add ?1 ?0)")
        session.expose(0)
        session.drive(2)
        self.assertEqual(session.auto(), 7)
        self.assertEqual(session.journal().splitlines()[1:5], ["expose 0", "drive 2", "drive 1", "expose 3"])

    def test_forty_nodes(self):
        session = self.check(MIXED, f"C{' A' * 38} (S Z)", "expose 0", *[f"expose {at}" for at in range(1, 39)],
                             "leave 39")
        self.assertEqual(session.count(), 40)
        self.check(MIXED, f"C{' A' * 59}", "leave 0")
        self.check(MIXED, f"C{' A' * 38} (not Nil)", "expose 0", *[f"expose {at}" for at in range(1, 39)], "leave 39")

    def test_a_size_above_60(self):
        program = read_program("f ?0 = D ?0 ?0\n")
        big = f"C{' A' * 29}"
        session = session_of(program, f"f ({big})")
        session.auto()
        self.assertEqual(session.journal().splitlines()[1], f"split 0 f ?0 | ?0 = {big}")
        big = f"C{' A' * 28}"
        session = session_of(program, f"f ({big})")
        session.auto()
        self.assertEqual(session.journal().splitlines()[1:3], ["drive 0", "expose 1"])


class ClosingTests(unittest.TestCase):
    """Promise 30: what holds of the rule in every session, also where moves were made before."""

    def check_session(self, source, program, start):
        session = Session(program, start)
        for _ in range(source.choice([0, 0, 3, 10])):
            if session.open_nodes():
                made(session, random_move(source, session))
        closed, lines = session.count() - len(session.open_nodes()), session.journal()
        if session.open_nodes():
            with self.assertRaises(Refused) as caught:
                session.graph()
            self.assertEqual(caught.exception.reason, "open")
        self.assertEqual(session.auto(), session.count() - closed)
        self.assertEqual(session.open_nodes(), ())
        self.assertEqual(len(session.graph()), session.count())
        self.assertEqual(session.journal()[:len(lines)], lines)
        self.check_moves(program, lines, session.journal()[len(lines):].splitlines())
        check_session(self, program, session)

    def check_moves(self, program, lines, moves):
        for move in moves:
            session = restart(program, lines)
            word, number = move.split()[:2]
            self.assertEqual(int(number), session.open_nodes()[0])
            if word != "expose":
                self.assertIsInstance(made(session, ("expose", int(number))), str, move)
            if word in ("split", "leave"):
                self.assertIsInstance(made(session, ("drive", int(number))), str, move)
            lines += f"{move}\n"

    def test_random_sessions(self):
        source = random.Random(30)
        for _ in range(100):
            start = random_start(source, source.randint(2, 12), [4, 2, 7])
            self.check_session(source, random_program(source), start)
            start = rename(random_start(source, source.randint(3, 9), [4, 2]), source, ["map", "add", "not", "twice"])
            self.check_session(source, MIXED, start)

    def test_the_greatest_starts(self):
        source = random.Random(31)
        for _ in range(15):
            self.check_session(source, random_program(source), random_start(source, 60, [4, 2, 7]))


class RandomTests(unittest.TestCase):
    def check(self, program, start, seen):
        session = Session(program, start)
        lines = session.journal().splitlines()
        # A second session makes the moves one by one, as the plain reading of the rule tells them.
        other = Session(program, start)
        while other.open_nodes():
            rows = rows_of(other)
            moves = plain_auto_moves(program, rows, other.open_nodes()[0])
            at = min([at for at, move in enumerate(moves) if not isinstance(plain_move(program, rows, move), str)])
            made(other, moves[at])
            lines.append(line_of(moves[at]))
            # A split by the head is the last but one, and one by the whistle stands before it.
            place = at - len(moves) if moves[at][0] == "split" else None
            seen[moves[at][0], place] = seen.get((moves[at][0], place), 0) + 1
        self.assertEqual(session.auto(), len(lines) - 1)
        self.assertEqual(session.journal().splitlines(), lines)
        self.assertEqual(rows_of(session), rows_of(other))
        check_session(self, program, session)

    def test_random_sessions(self):
        source = random.Random(25)
        seen = {}
        for _ in range(250):
            self.check(random_program(source), random_start(source, source.randint(2, 9), [4, 2, 7]), seen)
        self.assertEqual({word for word, _ in seen}, {"expose", "fold", "drive", "split", "leave"})
        # Splits by the whistle and by the head.
        self.assertTrue(("split", -3) in seen and ("split", -2) in seen, seen)

    def test_random_sessions_of_known_programs(self):
        source = random.Random(26)
        seen = {}
        for program, names in ((ADD, ["add"]), (REV, ["rev"]), (MIXED, ["map", "add", "not", "twice", "id", "grow"])):
            for _ in range(40):
                arguments = tuple([random_start(source, source.randint(1, 5), [4, 2]) for _ in range(2)])
                renamed = rename((names[0], arguments), source, names)
                self.check(program, renamed, seen)
        self.assertEqual({word for word, _ in seen}, {"expose", "fold", "drive", "split", "leave"})


if __name__ == "__main__":
    unittest.main()
