import random
import unittest

from drivefold.errors import BadJournal
from drivefold.journals import restart
from drivefold.sessions import Session
from drivefold.termtexts import read_term, write_term
from tests.graphs import closed_session, plain_restart
from tests.judges import check_session, made, random_move, rows_of, session_of
from tests.programs import ADD, MIXED, REV, random_program, random_start, rename
from tests.samples import chain
from tests.test_papers import change_of_text

JOURNAL = "start add (add ?0 ?1) ?2\ndrive 0\ndrive 2\nexpose 3\nfold 4 0\nleave 1\n"
SPLIT = "start map (Cons ?2 Nil) (k (not ?2))\nsplit 0 map ?7 (k ?0) | ?0 = not ?2 | ?7 = Cons ?2 Nil\n"


def found_by(program, text):
    """The nodes of the session, or the number of the wrong line."""
    try:
        return rows_of(restart(program, text))
    except BadJournal as error:
        return error.line


class RestartTests(unittest.TestCase):
    def check(self, program, text):
        session = restart(program, text)
        self.assertEqual(session.journal(), text)
        self.assertEqual(rows_of(session), plain_restart(program, text))
        return session

    def wrong(self, line, *texts, program=MIXED):
        for text in texts:
            with self.assertRaises(BadJournal, msg=repr(text)) as caught:
                restart(program, text)
            self.assertEqual(vars(caught.exception), {"line": line}, repr(text))
            self.assertEqual(plain_restart(program, text), line, repr(text))

    def same(self, program, session):
        again = restart(program, session.journal())
        self.assertEqual(rows_of(again), rows_of(session))
        self.assertEqual(again.journal(), session.journal())
        return again


class RightTests(RestartTests):
    def test_the_example_of_the_document(self):
        session = self.check(ADD, JOURNAL)
        self.assertEqual(session.open_nodes(), ())
        self.assertEqual(session.count(), 5)

    def test_a_start_alone(self):
        for text in ("A", "?0", "?999", "map (Cons ?0 Nil) not", "loop"):
            session = self.check(MIXED, f"start {text}\n")
            self.assertEqual(session.open_nodes(), (0,))
            self.assertEqual(session.node(0)[0], read_term(text))

    def test_splits(self):
        session = self.check(MIXED, f"{SPLIT}drive 2\n")
        self.assertEqual(session.node(0)[5], (0, 7))
        self.assertEqual(session.open_nodes(), (1, 3, 4, 5))

    def test_sessions_that_are_not_closed(self):
        session = session_of(ADD, "add (add ?0 ?1) ?2")
        for move in (("drive", 0), ("drive", 2), ("expose", 3), ("fold", 4, 0), ("leave", 1)):
            made(session, move)
            self.same(ADD, session)

    def test_the_session_goes_on(self):
        session = restart(REV, "start rev ?0 Nil\ndrive 0\n")
        self.assertEqual(session.auto(), 11)
        whole = session_of(REV, "rev ?0 Nil")
        whole.auto()
        self.assertEqual((rows_of(session), session.journal()), (rows_of(whole), whole.journal()))

    def test_moves_of_auto(self):
        for text in ("add (add ?0 ?1) ?2", "map (map ?0 not) not", "grow ?0", "twice (twice ?0) ?1"):
            session = session_of(MIXED, text)
            session.auto()
            self.same(MIXED, session)

    def test_the_greatest_start(self):
        for start in (chain("S", 59, 0), chain("not", 59, 0), ("C", (("A", ()),) * 59)):
            session = Session(MIXED, start)
            session.auto()
            self.same(MIXED, session)


class WrongTests(RestartTests):
    def test_no_newline(self):
        self.wrong(1, "", "start A", "A", " ", "start", "start A | ?0 = B")

    def test_what_stands_behind_the_last_newline(self):
        self.wrong(2, "start A\nexpose 0", "start A\n ", "start A\nx", "start A\nstart A")
        self.wrong(7, f"{JOURNAL}x", f"{JOURNAL}leave 1", program=ADD)
        self.wrong(6, JOURNAL[:-1], program=ADD)

    def test_a_wrong_line_before_what_stands_behind_the_last_newline(self):
        self.wrong(1, "start nobody\nx", "\nx")
        self.wrong(2, "start A\ndrive 0\nx")

    def test_empty_lines(self):
        self.wrong(1, "\n", f"\n{JOURNAL}")
        self.wrong(2, "start A\n\n", "start A\n\nexpose 0\n")
        self.wrong(3, "start A\nexpose 0\n\n")

    def test_starts(self):
        self.wrong(1, "start\n", "start \n", "start  A\n", " start A\n", "start A \n", "Start A\n", "begin A\n", "A\n",
                   "start A B)\n", "start (A)\n", "start ?01\n", "start ?10000\n", "start A | ?0 = B\n", "startA\n",
                   "start 0 A\n", "expose 0\n", "drive 0\n", "starts A\n")

    def test_functions_of_the_start(self):
        self.wrong(1, "start nobody\n", "start not nobody\n", "start S (S nobody)\n", "start ?0 nobody\nleave 0\n")
        self.wrong(1, "start add ?0\n", program=REV)
        self.wrong(1, "start add ?0\n", program=())
        self.check((), "start Add ?0\nexpose 0\n")

    def test_a_start_of_a_size_of_60_and_of_61(self):
        self.check(MIXED, f"start C{' A' * 59}\n")
        self.wrong(1, f"start C{' A' * 60}\n", f"start C{' A' * 60}\nleave 0\n", f"start C{' A' * 100}\n")

    def test_a_second_start(self):
        self.wrong(2, "start A\nstart A\n", "start A\nstart A\nleave 0\n")
        self.wrong(3, "start A\nexpose 0\nstart A\n")

    def test_words_of_moves(self):
        for line in ("exposed 0", "Expose 0", "move 0", "0", "leave", "expose", "drive", "fold", "split", "open 0", "auto",
                     "leave0", "0 leave", "folded 0 0", "stop 0", "*"):
            self.wrong(2, f"start A\n{line}\n", f"start loop\n{line}\n")

    def test_numbers_of_moves(self):
        for word in ("00", "01", "-0", "+0", "0.0", "?0", "A", "0x0", "", "0 ", " 0", "0 0", "0 1", "00000", "0,"):
            self.wrong(2, f"start A\nexpose {word}\n", f"start loop\ndrive {word}\n", f"start A\nleave {word}\n",
                       f"start S A\nsplit {word} S ?0 | ?0 = A\n")
        for word in ("00", "0 00", "00 0", "0 ?0", "0", "0 ", "0  0", " 0 0", "0 0 0", "0 0 ", "?0 0", "0 -0"):
            self.wrong(3, f"start C loop loop\nexpose 0\nfold {word}\n")
        self.wrong(4, "start C loop loop\nexpose 0\ndrive 1\nfold 2 01\n", "start C loop loop\nexpose 0\ndrive 1\nfold 02 1\n",
                   "start C loop loop\nexpose 0\ndrive 1\nfold 2\n", "start C loop loop\nexpose 0\ndrive 1\nfold 2  1\n",
                   "start C loop loop\nexpose 0\ndrive 1\nfold 2 1 \n", "start C loop loop\nexpose 0\ndrive 1\nfold 2 1 0\n")
        self.check(MIXED, "start C loop loop\nexpose 0\ndrive 1\nfold 2 1\n")

    def test_long_numbers(self):
        for word in ("1", "40", "9999", "10000", "123456789012345678901234567890"):
            self.wrong(2, f"start A\nexpose {word}\n", f"start A\nleave {word}\n", f"start loop\ndrive {word}\n",
                       f"start A\nfold 0 {word}\n", f"start A\nfold {word} 0\n")

    def test_blanks(self):
        self.wrong(2, "start A\n expose 0\n", "start A\nexpose  0\n", "start A\nexpose 0 \n")

    def test_texts_of_splits(self):
        start = "start k (S A) (S B)\n"
        self.check(MIXED, f"{start}split 0 k ?0 (S B) | ?0 = S A\n")
        self.check(MIXED, f"{start}split 0 k ?0 ?12 | ?12 = S B | ?0 = S A\n")
        for line in ("split 0 k ?0 (S B)", "split 0 k ?0 (S B) |", "split 0 k ?0 (S B) | ", "split 0 k ?0 (S B) | ?0 =",
                     "split 0 k ?0 (S B) | ?0 = ", "split 0 k ?0 (S B) | ?0 = S A | ", "split 0 k ?0 (S B) | ?0 = S A |",
                     "split 0 k ?0 (S B) | 0 = S A", "split 0 k ?0 (S B) | ?00 = S A", "split 0 k ?0 (S B) | ?0= S A",
                     "split 0 k ?0 (S B) | ?0 =S A", "split 0 k ?0 (S B) | ?0 =  S A", "split 0 k ?0 (S B) | ?0  = S A",
                     "split 0 k ?0 (S B) |  ?0 = S A", "split 0 k ?0 (S B)  | ?0 = S A", "split 0 k ?0 (S B)| ?0 = S A",
                     "split 0 k ?0 (S B) |?0 = S A", "split 0  k ?0 (S B) | ?0 = S A", "split 0 k ?0 (S B) | ?0 = (S A)",
                     "split 0 k ?0 (S B) | ?0 = S A ", "split 0 k ?0 (S B) | x = S A", "split 0 k ?0 (S B) | X = S A",
                     "split 0 (k ?0 (S B)) | ?0 = S A", "split 0 | ?0 = S A", "split 0 | k ?0 (S B) | ?0 = S A",
                     "split 0 ?0 = S A", "split k ?0 (S B) | ?0 = S A", "split 0 k ?0 (S B) || ?0 = S A",
                     "split 0 k ?0 (S B) | ?0 = S A = S A", "split 0 k ?0 (S B) | ?0 ?0 = S A",
                     "split 0 k ?0 (S B) , ?0 = S A", "split 0 k ?10000 (S B) | ?10000 = S A",
                     "split 0 0 k ?0 (S B) | ?0 = S A", "split 0 k ?0 ?1 | ?0 = S A, ?1 = S B"):
            self.wrong(2, f"{start}{line}\n", f"{start}{line}\nleave 1\n")

    def test_functions_of_splits(self):
        self.wrong(2, "start not (S A)\nsplit 0 nobody ?0 | ?0 = S A\n", "start not (S A)\nsplit 0 not ?0 | ?0 = nobody A\n",
                   "start not (S A)\nsplit 0 not ?0 | ?0 = S A | ?1 = nobody\n")

    def test_moves_that_are_refused(self):
        for move in ("drive 0", "expose 1", "leave 7", "fold 0 0", "fold 0 1", "split 0 S ?0 | ?0 = A"):
            self.wrong(2, f"start S A\n{move}\n")
        self.wrong(3, "start S A\nexpose 0\nexpose 0\n", "start S A\nexpose 0\nleave 0\n", "start loop\ndrive 0\ndrive 1\n",
                   "start loop\ndrive 0\nexpose 1\n", "start loop\ndrive 0\nfold 1 1\n")
        self.wrong(2, "start not ?0\nexpose 0\n", "start map (S A) ?0\nsplit 0 map ?0 ?0 | ?0 = S A\n",
                   "start map (S A) ?0\nsplit 0 map ?1 ?0 | ?1 = S B\n", f"start C{' A' * 59}\nexpose 0\n",
                   "start map A ?0\nsplit 0 map ?1 ?0 | ?1 = A\n")
        self.wrong(3, "start rev ?0 Nil\ndrive 0\ndrive 2\n", program=REV)

    def test_moves_when_nothing_is_open(self):
        self.wrong(7, f"{JOURNAL}leave 0\n", f"{JOURNAL}expose 1\n", f"{JOURNAL}leave 5\n", program=ADD)

    def test_the_first_wrong_line_is_told(self):
        lines = JOURNAL.splitlines()
        for number in range(len(lines)):
            for wrong in ("", "leave 9", "nothing", "start A", f"{lines[number]} ", f" {lines[number]}"):
                changed = lines[:number] + [wrong] + lines[number + 1:]
                if wrong != "start A" or number:
                    self.wrong(number + 1, "\n".join(changed) + "\n", "\n".join(changed[:number + 1] + ["x", "y"]) + "\n",
                               program=ADD)

    def test_a_line_that_is_left_out(self):
        self.wrong(2, JOURNAL.replace("drive 0\n", ""), program=ADD)
        self.wrong(3, JOURNAL.replace("drive 2\n", ""), program=ADD)
        self.wrong(4, JOURNAL.replace("expose 3\n", ""), program=ADD)
        self.wrong(1, JOURNAL.replace("start add (add ?0 ?1) ?2\n", ""), program=ADD)


class RandomTests(RestartTests):
    def test_journals_of_random_sessions(self):
        source = random.Random(56)
        for _ in range(200):
            program = random_program(source)
            session = Session(program, random_start(source, source.randint(2, 14), [4, 2, 7]))
            for _ in range(source.randint(0, 40)):
                if session.open_nodes():
                    made(session, random_move(source, session))
            check_session(self, program, self.same(program, session))
            start = rename(random_start(source, source.randint(3, 9), [4, 2]), source, ["map", "add", "k", "twice"])
            self.same(MIXED, closed_session(source, MIXED, start))

    def test_texts_with_random_changes(self):
        source = random.Random(27)
        seen = {}
        for _ in range(250):
            program = random_program(source)
            session = closed_session(source, program, random_start(source, source.randint(2, 10), [4, 2, 7]))
            text = session.journal()
            for _ in range(12):
                changed = change_of_journal(source, text)
                found = found_by(program, changed)
                self.assertEqual(found, plain_restart(program, changed), repr(changed))
                word = min(found, 4) if isinstance(found, int) else "right"
                seen[word] = seen.get(word, 0) + 1
        self.assertEqual(set(seen), {1, 2, 3, 4, "right"})
        self.assertGreater(min(seen.values()), 50)


def change_of_journal(source, text):
    if source.random() < 0.5:
        return change_of_text(source, text)
    lines = text.split("\n")
    at, behind = source.randrange(len(lines)), source.randrange(len(lines))
    what = source.randrange(4)
    if what == 0:
        lines[at], lines[behind] = lines[behind], lines[at]
    elif what == 1:
        del lines[at]
    elif what == 2:
        lines.insert(at, lines[behind])
    else:
        number = source.randint(0, 9)
        word = write_term(random_start(source, source.randint(1, 4), [0, 1]))
        lines[at] = source.choice([f"expose {number}", f"drive {number}", f"leave {number}", f"fold {number} {at}",
                                   f"split {number} B ?0 | ?0 = {word}"])
    return "\n".join(lines)


if __name__ == "__main__":
    unittest.main()
