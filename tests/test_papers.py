import random
import unittest

from drivefold.errors import BadPaper
from drivefold.papers import read_paper, write_paper
from drivefold.termtexts import read_term
from tests.graphs import GraphMaker, changed_row, closed_session, paper_text, plain_read_paper
from tests.programs import random_program, random_start
from tests.samples import chain

A = ("A", ())
RIGHT = "exposed 1 : S A\nleft : A\n"


class BothWays(unittest.TestCase):
    def check(self, text, *rows):
        self.assertEqual(read_paper(text), rows)
        self.assertEqual(write_paper(rows), text)

    def check_wrong(self, *texts):
        for text in texts:
            with self.assertRaises(BadPaper, msg=repr(text)) as caught:
                read_paper(text)
            self.assertEqual(vars(caught.exception), {})
            self.assertIsNone(plain_read_paper(text), repr(text))


class WriteAndReadTests(BothWays):
    def test_the_example_of_the_document(self):
        self.check(
            "branched 1 2 : add (add ?0 ?1) ?2\n"
            "left : add ?1 ?2\n"
            "stepped 3 : add (S (add ?3 ?1)) ?2\n"
            "exposed 4 : S (add (add ?3 ?1) ?2)\n"
            "folded to 0 : add (add ?3 ?1) ?2\n",
            ("branched", read_term("add (add ?0 ?1) ?2"), (1, 2), None, ()),
            ("left", read_term("add ?1 ?2"), (), None, ()),
            ("stepped", read_term("add (S (add ?3 ?1)) ?2"), (3,), None, ()),
            ("exposed", read_term("S (add (add ?3 ?1) ?2)"), (4,), None, ()),
            ("folded", read_term("add (add ?3 ?1) ?2"), (), 0, ()))

    def test_children(self):
        for kind in ("exposed", "stepped", "branched", "left"):
            for children in ((), (1,), (1, 2, 3), (0,), (7, 7), (9999, 3, 12)):
                told = "".join([f" {child}" for child in children])
                self.check(f"{kind}{told} : A\n", (kind, A, children, None, ()))

    def test_splits(self):
        self.check("split ?7 of 1 2 : f A\n", ("split", ("f", (A,)), (1, 2), None, (7,)))
        self.check("split ?7 ?0 ?999 of 3 1 2 12 : A\n", ("split", A, (3, 1, 2, 12), None, (7, 0, 999)))

    def test_splits_without_unknowns_or_children(self):
        self.check("split of : A\n", ("split", A, (), None, ()))
        self.check("split of 1 2 : A\n", ("split", A, (1, 2), None, ()))
        self.check("split ?1 ?2 of : A\n", ("split", A, (), None, (1, 2)))

    def test_splits_that_say_an_unknown_or_a_child_twice(self):
        self.check("split ?1 ?1 of 2 2 : A\n", ("split", A, (2, 2), None, (1, 1)))

    def test_folds(self):
        self.check("folded to 0 : A\n", ("folded", A, (), 0, ()))
        self.check("folded to 12 by 3 : A\n", ("folded", A, (3,), 12, ()))
        self.check("folded to 9999 by 3 4 0 : A\n", ("folded", A, (3, 4, 0), 9999, ()))

    def test_numbers_of_four_digits(self):
        self.check("left 9999 : ?9999\nsplit ?9999 of 1000 : A\nfolded to 1000 by 9999 : ?1000\n",
                   ("left", (9999, ()), (9999,), None, ()), ("split", A, (1000,), None, (9999,)),
                   ("folded", (1000, ()), (9999,), 1000, ()))

    def test_terms_of_any_size(self):
        for term in (chain("S", 100), ("C", (A,) * 500), (0, (chain("f", 50, 1),) * 20)):
            row = ("left", term, (), None, ())
            text = write_paper((row,))
            self.assertEqual(read_paper(text), (row,))
            self.assertEqual(text, paper_text((row,)))

    def test_one_line_and_forty(self):
        for count in (1, 2, 39, 40):
            self.check("left : A\n" * count, *[("left", A, (), None, ())] * count)


class WrongTests(BothWays):
    def test_no_lines_and_more_than_forty(self):
        self.check_wrong("", "left : A\n" * 41, "left : A\n" * 100)

    def test_what_stands_behind_the_last_newline(self):
        self.check_wrong("left : A", f"{RIGHT}left : A", f"{RIGHT} ", f"{RIGHT}A", "A", " ")
        self.check_wrong("left : A\n" * 40 + "l", "left : A\n" * 39 + "left : A")

    def test_empty_lines(self):
        self.check_wrong("\n", f"{RIGHT}\n", f"\n{RIGHT}", "left : A\n\nleft : A\n")

    def test_kinds(self):
        self.check_wrong("open : A\n", "open 1 : A\n", "Left : A\n", "leave : A\n", "expose 1 : A\n", " : A\n", ": A\n",
                         "lef : A\n", "leftt : A\n", "1 : A\n", "drive 0 : A\n", "split : A\n", "folded : A\n")

    def test_blanks(self):
        self.check_wrong(" left : A\n", "left  : A\n", "left :  A\n", "left : A \n", "left: A\n", "left :A\n",
                         "left:A\n", "exposed  1 : A\n", "exposed 1  2 : A\n", "exposed 1 2  : A\n", "exposed1 : A\n",
                         "split  ?1 of 1 2 : A\n", "split ?1  of 1 2 : A\n", "split ?1 of  1 2 : A\n",
                         "split ?1 of 1 2  : A\n", "split  of : A\n", "split of  : A\n", "folded  to 1 : A\n",
                         "folded to  1 : A\n", "folded to 1  : A\n", "folded to 1  by 2 : A\n",
                         "folded to 1 by  2 : A\n", "folded to 1 by 2  : A\n")

    def test_children_that_are_no_numbers(self):
        for word in ("x", "A", "?1", "-1", "+1", "1.0", "1,2", "01", "00", "007", "10000", "00000", "12345", "of", "to",
                     "1a", "None", "0x1"):
            self.check_wrong(f"exposed {word} : A\n", f"stepped 1 {word} : A\n", f"branched {word} 1 : A\n",
                             f"left {word} : A\n", f"split ?1 of {word} : A\n", f"split ?1 of 1 {word} : A\n",
                             f"folded to {word} : A\n", f"folded to {word} by 1 : A\n", f"folded to 1 by {word} : A\n",
                             f"folded to 1 by 2 {word} : A\n")

    def test_unknowns_of_splits(self):
        for word in ("x", "1", "??1", "?", "?01", "?00", "?10000", "?-1", "?x", "1?", "?1,?2", "?1?2", "A"):
            self.check_wrong(f"split {word} of 1 2 : A\n", f"split ?1 {word} of 1 2 : A\n",
                             f"split {word} ?1 of 1 2 : A\n")

    def test_words_of_splits(self):
        self.check_wrong("split ?1 : A\n", "split ?1 1 2 : A\n", "split 1 2 : A\n", "split ?1 by 1 2 : A\n",
                         "split ?1 to 1 2 : A\n", "split of of 1 : A\n", "split ?1 of 1 of 2 : A\n",
                         "split of ?1 1 2 : A\n", "split ?1 Of 1 2 : A\n", "of ?1 split 1 2 : A\n", "split ?1of 1 2 : A\n",
                         "split ?1 of1 2 : A\n")

    def test_words_of_folds(self):
        self.check_wrong("folded to : A\n", "folded 1 : A\n", "folded by 1 : A\n", "folded to by 1 : A\n",
                         "folded to 1 by : A\n", "folded to 1 2 : A\n", "folded to 1 2 3 : A\n", "folded to 1 of 2 : A\n",
                         "folded of 1 by 2 : A\n", "folded to 1 by 2 by 3 : A\n", "folded to 1 to 2 : A\n",
                         "folded by 2 to 1 : A\n", "folded to 1 By 2 : A\n", "folded to 1 by by 2 : A\n",
                         "folded to to 1 : A\n", "folded ?1 of 2 : A\n")

    def test_words_of_other_kinds(self):
        self.check_wrong("exposed to 1 : A\n", "stepped of 1 : A\n", "branched by 1 2 : A\n", "left to 1 : A\n",
                         "exposed ?1 of 1 : A\n", "left of : A\n")

    def test_terms(self):
        for text in ("", "a b)", "(A)", "S (A", "S  A", "?01", "?10000", "?", "A :", "A : B", ": A", "abcdefghijklm", "1",
                     "A B ", "S (A) B", "s_t", "A = B"):
            self.check_wrong(f"left : {text}\n", f"exposed 1 : {text}\n", f"split ?1 of 1 2 : {text}\n",
                             f"folded to 1 : {text}\n")

    def test_no_colon(self):
        self.check_wrong("left\n", "left A\n", "A\n", "left ; A\n", "left : \n", "left :\n")

    def test_a_wrong_line_among_right_ones(self):
        for number in range(5):
            lines = ["left : A\n"] * 5
            self.assertEqual(len(read_paper("".join(lines))), 5)
            lines[number] = "open : A\n"
            self.check_wrong("".join(lines))


class RandomTests(unittest.TestCase):
    def check_graph(self, graph):
        text = write_paper(graph)
        self.assertEqual(text, paper_text(graph))
        self.assertEqual(read_paper(text), graph)
        return text

    def read(self, text):
        try:
            return read_paper(text)
        except BadPaper:
            return None

    def test_graphs_of_sessions_and_others(self):
        source = random.Random(23)
        for _ in range(150):
            program = random_program(source)
            start = random_start(source, source.randint(2, 14), [4, 2, 7])
            self.check_graph(closed_session(source, program, start).graph())
            graph = list(GraphMaker(source, program, start, start).graph())
            for _ in range(10):
                number = source.randrange(len(graph))
                graph[number] = changed_row(source, graph, number)
            self.check_graph(tuple(graph))

    def test_texts_with_random_changes(self):
        source = random.Random(24)
        seen = {True: 0, False: 0}
        for _ in range(300):
            program = random_program(source)
            start = random_start(source, source.randint(2, 10), [4, 2, 7])
            text = self.check_graph(closed_session(source, program, start).graph())
            for _ in range(20):
                changed = change_of_text(source, text)
                found = self.read(changed)
                self.assertEqual(found, plain_read_paper(changed), repr(changed))
                seen[found is None] += 1
        self.assertGreater(min(seen.values()), 500)


def change_of_text(source, text):
    """The text with a piece left out, repeated, exchanged or put in."""
    at, behind = sorted([source.randint(0, len(text)), source.randint(0, len(text))])
    behind = min(behind, at + source.choice([0, 1, 1, 2, 9]))
    word = source.choice(["", "", " ", "\n", "0", "1", "?", "?3", " of", " by", " to", "A", ":", "(", ")", " : ", "left",
                          "split", "folded", "exposed", "B", " 2", " 12", text[at:behind] * 2])
    return text[:at] + word + text[behind:]


if __name__ == "__main__":
    unittest.main()
