import unittest

from drivefold.sessions import Session
from drivefold.termtexts import read_term, write_term
from tests.judges import made, parts_of, session_of
from tests.programs import ADD, MIXED, REV
from tests.samples import chain


class JournalTests(unittest.TestCase):
    def test_the_first_line_tells_the_start(self):
        for text in ("add (add ?0 ?1) ?2", "Z", "?999", "map (Cons ?0 Nil) not"):
            self.assertEqual(session_of(MIXED, text).journal(), f"start {text}\n")

    def test_the_example_of_the_document(self):
        session = session_of(ADD, "add (add ?0 ?1) ?2")
        session.drive(0)
        session.drive(2)
        session.expose(3)
        session.fold(4, 0)
        session.leave(1)
        self.assertEqual(
            session.journal(), "start add (add ?0 ?1) ?2\ndrive 0\ndrive 2\nexpose 3\nfold 4 0\nleave 1\n")

    def test_splits_tell_the_body_and_the_parts_in_their_order(self):
        session = session_of(MIXED, "map (Cons ?2 Nil) (k (not ?2))")
        session.split(0, read_term("map ?7 (k ?0)"), parts_of("0 = not ?2", "7 = Cons ?2 Nil"))
        self.assertEqual(session.journal(), "start map (Cons ?2 Nil) (k (not ?2))\n"
                         "split 0 map ?7 (k ?0) | ?0 = not ?2 | ?7 = Cons ?2 Nil\n")

    def test_each_move_has_a_line_and_a_refused_one_has_none(self):
        session = session_of(REV, "rev ?0 Nil")
        self.assertEqual(made(session, ("leave", 1)), "not open")
        self.assertEqual(made(session, ("expose", 0)), "no value")
        self.assertEqual(made(session, ("fold", 0, 0)), "not driven")
        self.assertEqual(made(session, ("split", 0, read_term("rev ?0 ?1"), parts_of("1 = Nil"))), "not smaller")
        self.assertEqual(session.journal(), "start rev ?0 Nil\n")
        session.drive(0)
        self.assertEqual(made(session, ("drive", 2)), "whistle")
        session.split(2, read_term("rev ?2 ?0"), parts_of("0 = Cons ?1 Nil"))
        session.leave(3)
        self.assertEqual(made(session, ("leave", 3)), "not open")
        # What is asked is not told.
        session.whistle(3)
        session.open_nodes()
        self.assertEqual(session.journal(), "start rev ?0 Nil\ndrive 0\nsplit 2 rev ?2 ?0 | ?0 = Cons ?1 Nil\nleave 3\n")

    def test_the_moves_of_auto_are_told_behind_those_that_were_made(self):
        session = session_of(ADD, "C (add ?0 Z) (S Z)")
        session.expose(0)
        session.expose(2)
        session.auto()
        self.assertEqual(session.journal(), "start C (add ?0 Z) (S Z)\nexpose 0\nexpose 2\ndrive 1\nexpose 3\n"
                         "expose 4\nexpose 5\nfold 6 1\n")

    def test_deep_terms(self):
        session = Session(MIXED, chain("S", 59, 0))
        session.split(0, chain("S", 30, 1), ((1, chain("S", 29, 0)),))
        self.assertEqual(session.journal(), f"start {write_term(chain('S', 59, 0))}\n"
                         f"split 0 {write_term(chain('S', 30, 1))} | ?1 = {write_term(chain('S', 29, 0))}\n")


if __name__ == "__main__":
    unittest.main()
