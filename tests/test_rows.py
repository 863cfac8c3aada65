"""Which rows of graphs are right, and that those of sessions are."""

import random
import unittest

from drivefold.papers import read_paper, write_paper, wrong_line
from drivefold.programtexts import read_program
from drivefold.termtexts import read_term
from tests.graphs import GraphMaker, changed_row, closed_session, plain_wrong_line
from tests.judges import session_of
from tests.programs import ADD, MIXED, REV, random_program, random_start, rename
from tests.samples import chain


class RowTests(unittest.TestCase):
    def found(self, paper, program):
        graph = read_paper(paper)
        found = wrong_line(program, graph)
        self.assertEqual(found, plain_wrong_line(program, graph), paper)
        return found

    def right(self, *papers, program=MIXED):
        for paper in papers:
            self.assertIsNone(self.found(paper, program), paper)

    def wrong(self, row, *papers, program=MIXED):
        for paper in papers:
            self.assertEqual(self.found(paper, program), row, paper)


class AnyKindTests(RowTests):
    def test_functions_of_the_program(self):
        self.right("left : map not loop\n", "left : Nobody (S Z)\n")
        self.wrong(0, "left : nobody\n", "left : S (S nobody)\n", "left : not nobody\n", "left : nobody ?0\n",
                   "exposed : nobody\n", "exposed 1 : ?0 nobody\nleft : nobody\n")
        self.wrong(1, "left : A\nleft : nobody\nleft : nobody\n")
        self.wrong(0, "left : map\n", program=ADD)
        self.wrong(0, "left : add\n", program=())
        self.right("left : A ?0\n", program=())

    def test_a_size_of_60_and_of_61(self):
        self.right(f"left : C{' A' * 59}\n")
        self.wrong(0, f"left : C{' A' * 60}\n")
        self.wrong(1, f"left : A\nleft : C{' A' * 60}\nleft : A\n")
        self.wrong(0, f"left : C{' A' * 900}\n")

    def test_sizes_of_children_are_their_own(self):
        program = read_program("f ?0 = D ?0 ?0\n")
        right, wrong = f"C{' A' * 28}", f"C{' A' * 29}"
        self.right(f"stepped 1 : f ({right})\nleft : D ({right}) ({right})\n", program=program)
        # The child is too large here, and its parent is right all the same.
        self.wrong(1, f"stepped 1 : f ({wrong})\nleft : D ({wrong}) ({wrong})\n", program=program)
        self.wrong(0, f"exposed 1 : E (D ({wrong}) ({wrong}))\nleft : D ({wrong}) ({wrong})\n", program=program)

    def test_more_rows_than_a_session_has_nodes(self):
        graph = (("exposed", read_term(f"C{' A' * 59}"), tuple(range(1, 60)), None, ()),
                 *[("exposed", ("A", ()), (), None, ())] * 59)
        self.assertIsNone(wrong_line(MIXED, graph))
        self.assertEqual(wrong_line(MIXED, graph[:-1]), 0)

    def test_children_are_later_rows(self):
        self.right("exposed 1 : S A\nleft : A\n", "exposed 2 : S A\nleft : B\nleft : A\n")
        self.wrong(0, "exposed 2 : S A\nleft : A\n", "exposed 9999 : S A\nleft : A\n", "exposed 1 : S A\n",
                   "exposed 0 : S A\nleft : A\n", "stepped 0 : loop\n", "stepped 1 : loop\n")
        self.wrong(1, "left : A\nexposed 0 : S A\n", "left : A\nexposed 1 : S A\n", "left : A\nexposed 2 : S A\n",
                   "left : loop\nstepped 0 : loop\n")
        self.wrong(2, "branched 1 2 : not ?0\nleft : False\nstepped 1 : not True\nleft : False\n",
                   program=read_program("not True = False\nnot False = not True\n"))

    def test_the_first_wrong_row_is_told(self):
        self.wrong(1, "left : A\nleft 2 : A\nleft 1 : A\n")
        self.wrong(0, "left 1 : A\nleft 2 : A\nleft : nobody\n")
        self.wrong(39, "left : A\n" * 39 + "left 1 : A\n")
        self.wrong(5, "left : A\n" * 5 + "stepped : A\n" * 3)

    def test_rows_with_several_parents_or_none(self):
        self.right("exposed 1 1 : C A A\nleft : A\n", "left : A\nleft : B\n", "exposed : A\nexposed 2 : S A\nleft : A\n")

    def test_the_whistle_is_not_asked(self):
        self.right("stepped 1 : grow ?0\nstepped 2 : grow (S ?0)\nstepped 3 : grow (S (S ?0))\nleft : grow (S (S (S ?0)))"
                   "\n", "stepped 1 : loop\nstepped 2 : loop\nleft : loop\n")
        self.right("branched 1 2 : rev ?0 Nil\nleft : Nil\nbranched 3 4 : rev ?2 (Cons ?1 Nil)\nleft : Cons ?1 Nil\n"
                   "left : rev ?4 (Cons ?3 (Cons ?1 Nil))\n", program=REV)

    def test_any_other_kind_is_wrong(self):
        for term in ("A", "loop", "not ?0"):
            self.assertEqual(wrong_line(MIXED, (("open", read_term(term), (), None, ()),)), 0)


class ExposedTests(RowTests):
    def test_values_and_unknowns(self):
        self.right("exposed : A\n", "exposed : ?5\n", "exposed : not\n", "exposed 1 : map loop\nleft : loop\n",
                   "exposed 1 2 : ?5 A loop\nleft : A\nleft : loop\n", "exposed 2 1 : C A B\nleft : B\nleft : A\n")

    def test_no_value(self):
        self.wrong(0, "exposed : loop\n", "exposed 1 : not ?0\nleft : ?0\n", "exposed 1 : not Nil\nleft : Nil\n",
                   "exposed 1 : id A\nleft : A\n", "exposed 1 : not (?0 A)\nleft : ?0 A\n")

    def test_other_children(self):
        self.wrong(0, "exposed 1 : A\nleft : A\n", "exposed : S A\nleft : A\n", "exposed 1 : S A\nleft : B\n",
                   "exposed 1 1 : S A\nleft : A\n", "exposed 1 : C A B\nleft : A\nleft : B\n",
                   "exposed 2 1 : C A B\nleft : A\nleft : B\n", "exposed 1 : S ?0\nleft : ?1\n",
                   "exposed 1 : S A\nleft : S A\n", "exposed 1 : ?0 A\nleft : ?0\n",
                   "exposed 1 : S A\nleft : nobody\n")


class DrivenTests(RowTests):
    def test_stepped(self):
        self.right("stepped 1 : loop\nleft : loop\n", "stepped 1 : id ?3\nleft : ?3\n",
                   "stepped 1 : not (id True) A\nleft : not True A\n",
                   "stepped 2 : map (Cons ?0 Nil) not\nleft : A\nleft : Cons (not ?0) (map Nil not)\n")
        self.wrong(0, "stepped : loop\n", "stepped 1 1 : loop\nleft : loop\n", "stepped 1 : id ?3\nleft : ?4\n",
                   "stepped 1 : id ?3\nleft : id ?3\n", "stepped 1 : A\nleft : A\n", "stepped : A\n", "stepped : not\n",
                   "stepped : not Nil\n", "stepped : ?0 A\n", "stepped : not (?0 A)\n")

    def test_branched(self):
        self.right("branched 1 2 : not ?7\nleft : False\nleft : True\n",
                   "branched 2 1 : not ?7\nleft : True\nleft : False\n",
                   "branched 1 2 : map ?7 ?2\nleft : Nil\nleft : Cons (?2 ?8) (map ?9 ?2)\n",
                   "branched 1 2 : map ?7 ?9\nleft : Nil\nleft : Cons (?9 ?10) (map ?11 ?9)\n")
        self.wrong(0, "branched 1 2 : not ?7\nleft : True\nleft : False\n", "branched 1 : not ?7\nleft : False\n",
                   "branched : not ?7\n", "branched 1 2 1 : not ?7\nleft : False\nleft : True\n",
                   "branched 1 2 : map ?7 ?2\nleft : Nil\nleft : Cons (?2 ?3) (map ?4 ?2)\n",
                   "branched 1 2 : map ?7 ?9\nleft : Nil\nleft : Cons (?9 ?8) (map ?10 ?9)\n",
                   "branched : A\n", "branched : not Nil\n", "branched : not\n", "branched : ?0\n")

    def test_one_for_the_other(self):
        self.wrong(0, "branched 1 : loop\nleft : loop\n", "branched 1 : id ?0\nleft : ?0\n",
                   "stepped 1 2 : not ?7\nleft : False\nleft : True\n")
        program = read_program("f A = B\n")
        self.right("branched 1 : f ?0\nleft : B\n", "stepped 1 : f A\nleft : B\n", program=program)
        self.wrong(0, "stepped 1 : f ?0\nleft : B\n", "branched 1 : f A\nleft : B\n", program=program)

    def test_numbers_of_four_digits(self):
        self.right("branched 1 2 : add ?9998 Z\nleft : Z\nleft : S (add ?9999 Z)\n", program=ADD)
        self.wrong(0, "branched 1 2 : add ?9999 Z\nleft : Z\nleft : S (add ?9999 Z)\n", program=ADD)

    def test_deep_terms(self):
        graph = (("branched", chain("not", 59, 0), (1, 2), None, ()), ("left", chain("not", 58, "False"), (), None, ()),
                 ("left", chain("not", 58, "True"), (), None, ()))
        self.assertIsNone(wrong_line(MIXED, graph))
        self.assertEqual(wrong_line(MIXED, (graph[0], graph[2], graph[1])), 0)


class SplitTests(RowTests):
    def test_right_splits(self):
        self.right("split ?0 of 1 2 : id (S A)\nleft : id ?0\nleft : S A\n",
                   "split ?7 ?0 of 1 3 2 : k (S A) (S B)\nleft : k ?7 ?0\nleft : S B\nleft : S A\n",
                   "split ?9999 of 1 2 : k (S A) (S A)\nleft : k ?9999 ?9999\nleft : S A\n",
                   "split ?1 of 1 2 : k (S A) B\nleft : ?1 B\nleft : k (S A)\n",
                   "split ?1 ?2 of 1 2 2 : k (S A) (S A)\nleft : k ?1 ?2\nleft : S A\n")

    def test_unknowns(self):
        self.wrong(0, "split of 1 : id (S A)\nleft : id (S A)\n", "split of : id (S A)\n",
                   "split ?0 of 1 2 : k (S ?0) B\nleft : k ?0 B\nleft : S ?0\n",
                   "split ?1 of 1 2 : id (S A)\nleft : id ?0\nleft : S A\n",
                   "split ?1 ?1 of 1 2 2 : k (S A) (S A)\nleft : k ?1 ?1\nleft : S A\n",
                   "split ?0 ?1 of 1 2 2 : id (S A)\nleft : id ?0\nleft : S A\n")

    def test_as_many_children_as_unknowns_and_one(self):
        self.wrong(0, "split ?0 of : id (S A)\n", "split ?0 of 1 : id (S A)\nleft : id ?0\n",
                   "split ?0 of 1 2 2 : id (S A)\nleft : id ?0\nleft : S A\n",
                   "split ?0 ?1 of 1 2 : k (S A) (S B)\nleft : k ?0 ?1\nleft : S A\n",
                   "split of 1 2 : id (S A)\nleft : id ?0\nleft : S A\n")

    def test_not_the_term(self):
        self.wrong(0, "split ?0 of 1 2 : id (S A)\nleft : id ?0\nleft : S B\n",
                   "split ?0 of 2 1 : id (S A)\nleft : id ?0\nleft : S A\n",
                   "split ?0 of 1 2 : id (S A)\nleft : not ?0\nleft : S A\n",
                   "split ?0 ?1 of 1 2 3 : k (S A) (S B)\nleft : k ?1 ?0\nleft : S A\nleft : S B\n",
                   "split ?0 of 1 2 : k (S A) (S B)\nleft : k ?0 ?0\nleft : S A\n")

    def test_not_smaller(self):
        self.wrong(0, "split ?0 of 1 2 : id A\nleft : id ?0\nleft : A\n", "split ?0 of 1 2 : id A\nleft : ?0\nleft : id A\n",
                   "split ?0 of 1 2 : id A\nleft : ?0 A\nleft : id\n")

    def test_rows_of_any_size(self):
        # Put together, these terms would have more than a million names.
        body = f"id{' ?0' * 1000}"
        part = f"C{' A' * 1000}"
        self.assertEqual(wrong_line(MIXED, read_paper(
            f"split ?0 of 1 2 : id (S A)\nleft : {body}\nleft : {part}\n")), 0)


class FoldedTests(RowTests):
    def test_right_folds(self):
        self.right("stepped 1 : loop\nfolded to 0 : loop\n", "folded to 1 : not ?3\nbranched 2 3 : not ?0\nleft : False\n"
                   "left : True\n", "stepped 1 : id ?0\nleft : ?0\nfolded to 0 by 3 : id (S A)\nleft : S A\n",
                   "stepped 1 : k ?0 ?1\nleft : ?0\nfolded to 0 by 3 : k (S A) ?0\nleft : S A\n",
                   "stepped 1 : k ?0 ?1\nleft : ?0\nfolded to 0 by 4 3 : k A B\nleft : B\nleft : A\n",
                   "stepped 1 : k ?0 ?0\nleft : ?0\nfolded to 0 by 3 : k A A\nleft : A\n",
                   "stepped 1 : id ?0\nleft : ?0\nfolded to 0 : id ?9\n")

    def test_targets_that_are_not_driven(self):
        for target in (2, 3, 4, 5, 6, 7, 40, 9999):
            self.wrong(6, "stepped 2 : id ?0\nbranched 3 4 : not ?0\nleft : ?0\nleft : False\nexposed : True\n"
                       f"split ?0 of 7 8 : id (S A)\nfolded to {target} by 8 : id (S A)\nleft : id ?0\nleft : S A\n")
        self.wrong(0, "folded to 0 : loop\n", "folded to 1 : loop\nleft : loop\n", "folded to 1 : loop\n")
        self.wrong(1, "stepped 3 : loop\nfolded to 2 : loop\nfolded to 0 : loop\nleft : loop\n")

    def test_a_target_that_is_no_number_of_a_row(self):
        for target in (-1, -2, 2, 3):
            graph = (("folded", ("loop", ()), (), target, ()), ("stepped", ("loop", ()), (2,), None, ()))
            self.assertEqual(wrong_line(MIXED, graph), 0)

    def test_an_earlier_or_a_later_row(self):
        for first, second in (("stepped 2 : loop", "folded to 0 : loop"), ("folded to 1 : loop", "stepped 2 : loop")):
            self.right(f"{first}\n{second}\nleft : loop\n")

    def test_no_instance(self):
        self.wrong(2, "stepped 1 : id (S ?0)\nleft : S ?0\nfolded to 0 by 3 : id A\nleft : A\n",
                   "stepped 1 : k ?0 ?0\nleft : ?0\nfolded to 0 by 3 4 : k A B\nleft : A\nleft : B\n",
                   "stepped 1 : id ?0\nleft : ?0\nfolded to 0 by 3 : id A B\nleft : A\n",
                   "stepped 1 : id ?0\nleft : ?0\nfolded to 0 by 3 : not A\nleft : A\n")

    def test_other_children(self):
        for told in ("", " by 4", " by 3 4", " by 3 3", " by 1", " by 2"):
            self.wrong(2, f"stepped 1 : id ?0\nleft : ?0\nfolded to 0{told} : id (S A)\nleft : S A\nleft : S B\n")
        self.wrong(2, "stepped 1 : id ?0\nleft : ?0\nfolded to 0 by 3 : id ?0\nleft : ?0\n",
                   "stepped 1 : k ?0 ?1\nleft : ?0\nfolded to 0 by 4 3 : k A B\nleft : A\nleft : B\n",
                   "stepped 1 : k ?0 ?0\nleft : ?0\nfolded to 0 by 3 3 : k A A\nleft : A\n")

    def test_targets_of_any_size(self):
        big = f"k (C{' A' * 500}) ?0"
        self.assertEqual(wrong_line(MIXED, read_paper(f"folded to 1 : loop\nstepped 2 : {big}\nleft : A\n")), 0)


class LeftTests(RowTests):
    def test_no_children(self):
        self.right("left : loop\n", "left : ?0 A\n", "left : not Nil\n")
        self.wrong(0, "left 1 : A\nleft : A\n", "left 1 : S A\nleft : A\n", "left 1 : loop\nleft : loop\n")


class SessionTests(RowTests):
    """Promise 52: the graph of every closed session is right, also the one that is read from its paper."""

    def check(self, program, start, source):
        graph = closed_session(source, program, start).graph()
        self.assertIsNone(wrong_line(program, graph))
        self.assertIsNone(wrong_line(program, read_paper(write_paper(graph))))
        self.assertIsNone(plain_wrong_line(program, graph))

    def test_known_sessions(self):
        for program, text in ((ADD, "add (add ?0 ?1) ?2"), (REV, "rev ?0 Nil"), (MIXED, "map (map ?0 not) (add one)"),
                              (MIXED, "twice (twice (add ?0)) Z"), (MIXED, "grow ?0"), (MIXED, "?0 (not ?1) loop")):
            session = session_of(program, text)
            session.auto()
            self.assertIsNone(wrong_line(program, session.graph()))

    def test_the_greatest_start(self):
        for start in (chain("not", 59, 0), chain("S", 59, 0), ("C", (("A", ()),) * 59)):
            self.check(MIXED, start, random.Random(1))

    def test_random_sessions(self):
        source = random.Random(52)
        for _ in range(250):
            self.check(random_program(source), random_start(source, source.randint(2, 14), [4, 2, 7]), source)
            start = rename(random_start(source, source.randint(3, 9), [4, 2]), source, ["map", "add", "k", "twice"])
            self.check(MIXED, start, source)
            self.check(random_program(source), random_start(source, source.randint(40, 60), [4, 2, 7]), source)

    def test_other_graphs_and_random_changes(self):
        source = random.Random(53)
        seen = {}
        for _ in range(600):
            program = random_program(source)
            starts = [random_start(source, source.randint(2, 10), [4, 2, 7]) for _ in range(3)]
            graph = GraphMaker(source, program, *starts).graph()
            self.assertIsNone(wrong_line(program, graph))
            changed = list(graph)
            for _ in range(4):
                number = source.randrange(len(graph))
                changed[number] = changed_row(source, changed, number)
                found = wrong_line(program, tuple(changed))
                self.assertEqual(found, plain_wrong_line(program, tuple(changed)), changed)
                word = "right" if found is None else graph[found][0]
                seen[word] = seen.get(word, 0) + 1
        self.assertEqual(set(seen), {"right", "exposed", "stepped", "branched", "split", "folded", "left"})
        self.assertGreater(min(seen.values()), 5)


if __name__ == "__main__":
    unittest.main()
