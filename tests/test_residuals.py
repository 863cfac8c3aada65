import random
import unittest

from drivefold.errors import TooLarge
from drivefold.papers import read_paper, wrong_line
from drivefold.programtexts import read_program, write_program
from drivefold.residuals import residual
from drivefold.sessions import Session
from drivefold.terms import same, size
from drivefold.termtexts import read_term, write_term
from tests.graphs import GraphMaker, closed_session, plain_residual
from tests.programs import ADD, MIXED, random_program, random_start, rename
from tests.samples import chain

COPIES = read_program(
    "two ?0 = D ?0 ?0\n"
    "three ?0 = D ?0 ?0 A\n"
    "four ?0 = D ?0 ?0 A A\n"
    "five ?0 = D ?0 ?0 A A A\n"
    "six ?0 = D ?0 ?0 A A A A\n"
    "drop ?0 = A\n"
    "id ?0 = ?0\n")


def found_or_none(program, graph):
    try:
        return residual(program, graph)
    except TooLarge:
        return None


class ResidualTests(unittest.TestCase):
    def graph(self, program, paper):
        graph = read_paper(paper)
        self.assertIsNone(wrong_line(program, graph), paper)
        return graph

    def check(self, program, paper, start, *lines):
        """What is read off the paper: the term, and the lines behind those of the program."""
        graph = self.graph(program, paper)
        found, term = residual(program, graph)
        self.assertEqual(found[:len(program)], program)
        self.assertEqual(write_program(found[len(program):]).splitlines(), list(lines))
        self.assertEqual(write_term(term), start)
        self.assertEqual(plain_residual(program, graph), (found, term))

    def check_too_large(self, program, paper):
        with self.assertRaises(TooLarge, msg=paper) as caught:
            residual(program, self.graph(program, paper))
        self.assertEqual(vars(caught.exception), {})


class StandingTests(ResidualTests):
    """Section 19: what stands for a node."""

    def test_left(self):
        self.check(MIXED, "left : map ?3 (not ?0)\n", "map ?3 (not ?0)")

    def test_exposed(self):
        self.check(MIXED, "exposed : Z\n", "Z")
        self.check(MIXED, "exposed 1 2 : C (id ?0) (not ?1)\nstepped 3 : id ?0\nleft : not ?1\nleft : ?0\n",
                   "C ?0 (not ?1)")

    def test_exposed_with_an_unknown_as_its_head(self):
        self.check(MIXED, "exposed 1 2 : ?5 (id A) ?5\nstepped 3 : id A\nleft : ?5\nleft : A\n", "?5 A ?5")

    def test_exposed_that_waits(self):
        self.check(MIXED, "exposed 1 : map (id A)\nstepped 2 : id A\nexposed : A\n", "map A")

    def test_stepped(self):
        self.check(MIXED, "stepped 1 : k (id ?0) loop\nstepped 2 : id ?0\nleft : ?0\n", "?0")

    def test_stepped_to_which_a_node_is_folded(self):
        self.check(MIXED, "stepped 1 : loop\nfolded to 0 : loop\n", "r0x0", "r0x0 = r0x0")
        self.check(MIXED, "exposed 1 2 : C (k ?4 ?2) (k A B)\nstepped 3 : k ?4 ?2\nfolded to 1 by 4 5 : k A B\n"
                   "left : ?4\nleft : A\nleft : B\n", "C (r0x1 ?4 ?2) (r0x1 A B)", "r0x1 ?0 ?1 = ?0")

    def test_branched(self):
        self.check(MIXED, "branched 1 2 : not ?7\nexposed : False\nleft : True\n", "r0x0 ?7",
                   "r0x0 True = False", "r0x0 False = True")

    def test_split(self):
        self.check(MIXED, "split ?4 ?1 of 1 2 3 : k (id ?0) (not ?0)\nleft : k ?4 ?1\nstepped 4 : id ?0\n"
                   "left : not ?0\nleft : ?0\n", "k ?0 (not ?0)")

    def test_split_of_which_the_body_says_a_part_twice_or_not_at_all(self):
        self.check(MIXED, "split ?1 ?2 of 1 2 3 : k (not ?0) (id A)\nstepped 4 : k ?1 ?2\nleft : not ?0\n"
                   "stepped 5 : id A\nleft : ?1\nleft : A\n", "not ?0")
        self.check(COPIES, "split ?1 of 1 2 : two (id ?0)\nstepped 3 : two ?1\nstepped 4 : id ?0\nleft : D ?1 ?1\n"
                   "left : ?0\n", "D ?0 ?0")

    def test_split_with_a_part_as_a_head(self):
        self.check(MIXED, "split ?1 of 1 2 : k (id A) B\nexposed 3 : ?1 B\nexposed 4 : k (id A)\nleft : B\n"
                   "stepped 5 : id A\nleft : A\n", "k A B")

    def test_parts_are_put_in_all_at_once(self):
        # The first part stands for what has the number of the second unknown in it.
        self.check(MIXED, "split ?2 ?3 of 1 2 3 : C (S ?0) (S ?1)\nleft : C ?2 ?3\nleft : S ?0\nleft : S ?1\n",
                   "C (S ?0) (S ?1)")

    def test_folded_with_unknowns_and_children(self):
        program = read_program("f A ?0 ?1 = A\nf (B ?0) ?1 ?2 = f (?2 ?1) ?0 (id ?1)\nid ?0 = ?0\n")
        self.check(program, "branched 1 2 : f ?0 ?1 ?2\nleft : A\nfolded to 0 by 3 4 : f (?2 ?1) ?3 (id ?1)\n"
                   "left : ?2 ?1\nstepped 5 : id ?1\nleft : ?1\n", "r0x0 ?0 ?1 ?2",
                   "r0x0 A ?0 ?1 = A", "r0x0 (B ?0) ?1 ?2 = r0x0 (?2 ?1) ?0 ?1")

    def test_folded_to_a_term_with_its_unknowns_in_another_order(self):
        self.check(MIXED, "exposed 1 2 : C (k ?5 ?2) (k ?2 (id ?5))\nstepped 3 : k ?5 ?2\n"
                   "folded to 1 by 4 : k ?2 (id ?5)\nleft : ?5\nstepped 5 : id ?5\nleft : ?5\n",
                   "C (r0x1 ?5 ?2) (r0x1 ?2 ?5)", "r0x1 ?0 ?1 = ?0")

    def test_folded_to_a_term_with_an_unknown_that_stands_twice(self):
        self.check(MIXED, "exposed 1 2 : C (k ?5 ?5) (k (id A) (id A))\nstepped 3 : k ?5 ?5\n"
                   "folded to 1 by 4 : k (id A) (id A)\nleft : ?5\nstepped 5 : id A\nleft : A\n",
                   "C (r0x1 ?5) (r0x1 A)", "r0x1 ?0 = ?0")

    def test_folded_to_a_later_row(self):
        self.check(MIXED, "exposed 1 2 : C (not ?1) (not ?0)\nfolded to 2 : not ?1\nbranched 3 4 : not ?0\n"
                   "left : False\nleft : True\n", "C (r0x2 ?1) (r0x2 ?0)", "r0x2 True = False", "r0x2 False = True")

    def test_the_start_is_folded(self):
        self.check(MIXED, "folded to 1 by 2 : id (S ?3)\nstepped 3 : id ?9\nleft : S ?3\nleft : ?9\n",
                   "r0x1 (S ?3)", "r0x1 ?0 = ?0")

    def test_a_row_with_several_parents(self):
        self.check(MIXED, "exposed 1 1 : C (id ?0) (id ?0)\nstepped 2 : id ?0\nleft : ?0\n", "C ?0 ?0")

    def test_deep_terms(self):
        start = chain("S", 59, 0)
        session = Session(MIXED, start)
        session.auto()
        program, term = residual(MIXED, session.graph())
        self.assertEqual(program, MIXED)
        self.assertTrue(same(term, start))


class FunctionTests(ResidualTests):
    """Section 18 and 19: the functions of function nodes."""

    def test_the_functions_stand_behind_the_program_in_the_order_of_the_nodes(self):
        self.check(MIXED, "exposed 1 2 3 : C (not ?1) loop (not ?2)\nbranched 4 5 : not ?1\nstepped 6 : loop\n"
                   "branched 7 8 : not ?2\nleft : False\nleft : True\nfolded to 2 : loop\nleft : False\nleft : True\n",
                   "C (r0x1 ?1) r0x2 (r0x3 ?2)",
                   "r0x1 True = False", "r0x1 False = True", "r0x2 = r0x2", "r0x3 True = False", "r0x3 False = True")

    def test_numbers_of_two_digits(self):
        rows = "".join(["left : A\n"] * 11)
        told = " ".join(map(str, range(1, 13)))
        self.check(MIXED, f"exposed {told} : D{' A' * 11} (not ?0)\n{rows}branched 13 14 : not ?0\n"
                   "left : False\nleft : True\n", f"D{' A' * 11} (r0x12 ?0)",
                   "r0x12 True = False", "r0x12 False = True")

    def test_fresh_unknowns_first_and_then_the_other_parameters(self):
        program = read_program("f A ?0 ?1 = A\nf (C ?0 ?1) ?2 ?3 = D ?3 ?2 ?1 ?0\n")
        self.check(program, "branched 1 2 : f ?6 ?9 ?2\nleft : A\nleft : D ?2 ?9 ?11 ?10\n", "r0x0 ?6 ?9 ?2",
                   "r0x0 A ?0 ?1 = A", "r0x0 (C ?0 ?1) ?2 ?3 = D ?3 ?2 ?1 ?0")

    def test_the_unknown_that_is_learnt_is_no_parameter_of_the_rules(self):
        program = read_program("f A ?0 = ?0\nf (B ?0) ?1 = C ?0 ?1\n")
        self.check(program, "branched 1 2 : f ?3 (C ?3 ?1)\nleft : C A ?1\nleft : C ?4 (C (B ?4) ?1)\n",
                   "r0x0 ?3 ?1", "r0x0 A ?0 = C A ?0", "r0x0 (B ?0) ?1 = C ?0 (C (B ?0) ?1)")

    def test_an_unknown_that_is_needed_deeper_down(self):
        self.check(ADD, "branched 1 2 : add (add ?5 ?1) (add ?1 ?0)\nleft : add ?1 (add ?1 ?0)\n"
                   "left : add (S (add ?6 ?1)) (add ?1 ?0)\n", "r0x0 ?5 ?1 ?0",
                   "r0x0 Z ?0 ?1 = add ?0 (add ?0 ?1)", "r0x0 (S ?0) ?1 ?2 = add (S (add ?0 ?1)) (add ?1 ?2)")

    def test_rules_in_the_order_of_the_function(self):
        program = read_program("f B = B\nf (A ?0) = ?0\nf C = C\nf (D ?0 ?1) = ?1\n")
        self.check(program, "branched 1 2 3 4 : f ?0\nleft : B\nleft : ?1\nleft : C\nleft : ?2\n", "r0x0 ?0",
                   "r0x0 B = B", "r0x0 (A ?0) = ?0", "r0x0 C = C", "r0x0 (D ?0 ?1) = ?1")

    def test_parameters_that_the_body_does_not_name(self):
        self.check(MIXED, "exposed 1 2 : C (k ?9 (S ?4)) (k ?9 (S ?4))\nstepped 3 : k ?9 (S ?4)\n"
                   "folded to 1 : k ?9 (S ?4)\nleft : ?9\n", "C (r0x1 ?9 ?4) (r0x1 ?9 ?4)", "r0x1 ?0 ?1 = ?0")

    def test_unknowns_as_heads(self):
        self.check(MIXED, "exposed 1 2 : C (twice ?9 ?4) (twice ?4 ?9)\nstepped 3 : twice ?9 ?4\n"
                   "folded to 1 : twice ?4 ?9\nleft : ?9 (?9 ?4)\n", "C (r0x1 ?9 ?4) (r0x1 ?4 ?9)",
                   "r0x1 ?0 ?1 = ?0 (?0 ?1)")

    def test_a_function_within_a_function(self):
        self.check(MIXED, "branched 1 2 : not (not ?0)\nstepped 3 : not False\nleft : not True\nleft : True\n",
                   "r0x0 ?0", "r0x0 True = True", "r0x0 False = not True")
        self.check(ADD, "branched 1 2 : add ?0 (add ?1 ?2)\nbranched 3 4 : add ?1 ?2\nexposed 5 : S (add ?3 (add ?1 ?2))"
                   "\nleft : ?2\nexposed 6 : S (add ?3 ?2)\nfolded to 0 : add ?3 (add ?1 ?2)\n"
                   "folded to 1 : add ?3 ?2\n", "r0x0 ?0 ?1 ?2",
                   "r0x0 Z ?0 ?1 = r0x1 ?0 ?1", "r0x0 (S ?0) ?1 ?2 = S (r0x0 ?0 ?1 ?2)",
                   "r0x1 Z ?0 = ?0", "r0x1 (S ?0) ?1 = S (r0x1 ?0 ?1)")

    def test_fresh_unknowns_of_more_than_four_digits(self):
        program = read_program("f A = A\nf (B ?0 ?1) = B\n")
        self.check(program, "branched 1 2 : f ?9999\nleft : A\nleft : B\n", "r0x0 ?9999",
                   "r0x0 A = A", "r0x0 (B ?0 ?1) = B")


class NameTests(ResidualTests):
    """Section 18: the names of residual functions."""

    def check_name(self, wanted, *names):
        program = read_program("".join([f"{name} = A\n" for name in names]) + "not True = False\n")
        graph = self.graph(program, "branched 1 : not ?0\nleft : False\n")
        found, term = residual(program, graph)
        self.assertEqual(found, program + (("cases", wanted, 1, (("True", 0, ("False", ())),)),))
        self.assertEqual(term, (wanted, ((0, ()),)))

    def test_names_that_begin_like_those_of_residual_functions(self):
        self.check_name("r1x0", "r0x")
        self.check_name("r1x0", "r0x0")
        self.check_name("r1x0", "r0x7")
        self.check_name("r1x0", "r0xyz")
        self.check_name("r1x0", "id", "r0x12")
        self.check_name("r2x0", "r1x9", "r0x3")
        self.check_name("r1x0", "r0x1", "r2x1")

    def test_names_that_do_not(self):
        self.check_name("r0x0", "r1x0")
        self.check_name("r0x0", "r", "r0", "r00x0", "r01x", "rx0", "r0y0", "ar0x0", "r10x0", "r0Xx", "r0a0x")

    def test_names_of_constructors_do_not_count(self):
        program = read_program("not R0x0 = R0x1\n")
        graph = self.graph(program, "branched 1 : not ?0\nleft : R0x1\n")
        self.assertEqual(write_term(residual(program, graph)[1]), "r0x0 ?0")

    def test_more_than_ten(self):
        self.check_name("r10x0", *[f"r{number}x{number}" for number in range(10)])
        self.check_name("r11x0", *[f"r{number}x" for number in range(11)])
        self.check_name("r3x0", *[f"r{number}x" for number in range(11) if number != 3])


class SizeTests(ResidualTests):
    """Section 20: terms of a size of 120 and of 121, and what is needed."""

    def split(self, name, count, first=0):
        """The rows of a split that puts a term of so many names into the copying function, as the paper's rows."""
        big = f"C{' A' * (count - 1)}"
        body = write_term(self.stepped(name))
        return (f"split ?1 of {first + 1} {first + 2} : {name} ({big})\nstepped {first + 3} : {name} ?1\n"
                f"left : {big}\nleft : {body}\n")

    def stepped(self, name):
        told = {function[1]: function for function in COPIES}[name][3]
        return read_term(write_term(told).replace("?0", "?1"))

    def test_split(self):
        for name, count, wanted in (("two", 59, 119), ("three", 59, 120), ("four", 58, 119), ("five", 58, 120)):
            found = residual(COPIES, self.graph(COPIES, self.split(name, count)))
            self.assertEqual(size(found[1]), wanted)
        for name, count in (("four", 59), ("five", 59)):
            self.check_too_large(COPIES, self.split(name, count))

    def test_exposed(self):
        for name, count, wanted in (("four", 58, 120), ("two", 58, 118)):
            rows = f"exposed 1 : E ({name} (C{' A' * (count - 1)}))\n{self.split(name, count, 1)}"
            found = residual(COPIES, self.graph(COPIES, rows))
            self.assertEqual(size(found[1]), wanted)
        rows = f"exposed 1 : E (five (C{' A' * 57}))\n{self.split('five', 58, 1)}"
        self.check_too_large(COPIES, rows)

    def test_folded(self):
        for name, wanted in (("three", 119), ("four", 120), ("five", None)):
            rows = (f"folded to 5 by 1 : id ({name} (C{' A' * 57}))\n{self.split(name, 58, 1)}"
                    "stepped 6 : id ?0\nleft : ?0\n")
            if wanted is None:
                self.check_too_large(COPIES, rows)
            else:
                found = residual(COPIES, self.graph(COPIES, rows))
                self.assertEqual(size(found[1]), wanted)

    def test_a_part_of_a_split_that_the_body_drops_is_needed(self):
        for name in ("five", "six"):
            rows = (f"split ?2 of 1 2 : drop ({name} (C{' A' * 57}))\nstepped 6 : drop ?2\n{self.split(name, 58, 2)}"
                    "left : A\n")
            if name == "five":
                self.check(COPIES, rows, "A")
            else:
                self.check_too_large(COPIES, rows)

    def test_the_child_of_a_function_node_is_needed(self):
        program = read_program(f"case A = four (C{' A' * 58})\nfour ?0 = D ?0 ?0 A A\n")
        rows = f"branched 1 : case ?0\n{self.split('four', 59, 1)}"
        self.check_too_large(program, rows)
        # Nothing is made of the function node here, but its child is needed.
        self.check_too_large(program, f"left : A\nbranched 2 : case ?0\n{self.split('four', 59, 2)}")
        self.check(program, f"left : A\nbranched 2 : case ?0\nleft : four (C{' A' * 58})\n", "A",
                   f"r0x1 A = four (C{' A' * 58})")

    def test_rows_that_are_not_needed_may_be_too_large(self):
        self.check(COPIES, f"left : A\n{self.split('five', 59, 1)}", "A")
        self.check(COPIES, f"left : A\nexposed 2 : E (five (C{' A' * 57}))\n{self.split('five', 58, 2)}", "A")
        # Children of such rows are not needed either.
        self.check(COPIES, f"left : A\nexposed 2 : E (six (C{' A' * 57}))\n{self.split('six', 58, 2)}", "A")
        self.check(COPIES, f"exposed : A\nfolded to 6 by 2 : id (five (C{' A' * 57}))\n{self.split('five', 58, 2)}"
                   "stepped 7 : id ?0\nleft : ?0\n", "A", "r0x6 ?0 = ?0")

    def test_stepped_and_left_rows_have_no_bound_of_their_own(self):
        # What stands for the stepped row is what stands for the split, which is 120 at the most.
        rows = f"stepped 1 : id (three (C{' A' * 57}))\n{self.split('three', 58, 1)}"
        self.check(COPIES, rows, f"D (C{' A' * 57}) (C{' A' * 57}) A")

    def test_terms_that_would_be_huge(self):
        program = read_program("two ?0 = D ?0 ?0\ngrow ?0 = two (grow ?0)\n")
        # What stands for a row of these is twice what stands for the third row behind it.
        doubled = "".join([
            f"stepped {number + 1} : grow ?0\nsplit ?1 of {number + 2} {number + 3} : two (grow ?0)\n"
            "stepped 37 : two ?1\n" for number in range(0, 36, 3)])
        self.check_too_large(program, f"{doubled}left : grow ?0\nleft : D ?1 ?1\n")


class LineTests(ResidualTests):
    """Section 20: 200 and 201 lines."""

    def lines(self, count):
        return read_program("".join([f"f{number} = A\n" for number in range(count)]))

    def test_lines_of_the_program_alone(self):
        graph = read_paper("left : ?0\n")
        self.assertEqual(residual(self.lines(200), graph), (self.lines(200), (0, ())))
        with self.assertRaises(TooLarge):
            residual(self.lines(201), graph)

    def test_plain_functions_of_one_line_each(self):
        text = "stepped 1 : f0\nleft : A\nfolded to 0 : f0\nfolded to 4 : f1\nstepped 5 : f1\nleft : A\n"
        graph = read_paper(text)
        for count in (3, 198):
            found, _ = residual(self.lines(count), graph)
            self.assertEqual(len(found), count + 2)
        for count in (199, 200):
            with self.assertRaises(TooLarge):
                residual(self.lines(count), graph)

    def test_rules_count_one_by_one(self):
        cases = read_program("".join([f"c (D{number} ?0) = A\n" for number in range(30)]))
        text = f"branched {' '.join(map(str, range(1, 31)))} : c ?0\n" + "left : A\n" * 30
        graph = read_paper(text)
        self.assertEqual(len(residual(self.lines(140) + cases, graph)[0]), 142)
        with self.assertRaises(TooLarge):
            residual(self.lines(141) + cases, graph)

    def test_all_functions_of_a_program_count(self):
        cases = read_program("".join([f"c (D{number} ?0) = A\n" for number in range(100)]))
        graph = read_paper("stepped 1 : f0\nleft : A\nfolded to 0 : f0\n")
        self.assertEqual(len(residual(self.lines(99) + cases, graph)[0]), 101)
        with self.assertRaises(TooLarge):
            residual(self.lines(100) + cases, graph)


class RandomTests(ResidualTests):
    def check_graph(self, program, graph, seen):
        wanted = plain_residual(program, graph)
        self.assertEqual(found_or_none(program, graph), wanted)
        for row in graph:
            seen[row[0]] = seen.get(row[0], 0) + 1
        word = "too large" if wanted is None else "read off"
        seen[word] = seen.get(word, 0) + 1

    def test_sessions(self):
        source = random.Random(18)
        seen = {}
        for _ in range(300):
            program = random_program(source)
            start = random_start(source, source.randint(2, 14), [4, 2, 7])
            self.check_graph(program, closed_session(source, program, start).graph(), seen)
            start = rename(random_start(source, source.randint(3, 9), [4, 2]), source, ["map", "add", "k", "twice"])
            self.check_graph(MIXED, closed_session(source, MIXED, start).graph(), seen)
        self.assertGreater(min([seen[kind] for kind in (
            "exposed", "stepped", "branched", "split", "folded", "left", "read off")]), 100)

    def test_other_graphs(self):
        source = random.Random(19)
        seen = {}
        for _ in range(300):
            program = random_program(source)
            start = random_start(source, source.randint(2, 14), [4, 2, 7])
            others = [random_start(source, source.randint(2, 6), [4, 2]) for _ in range(4)]
            self.check_graph(program, GraphMaker(source, program, start, *others).graph(), seen)
            renamed = [rename(term, source, ["map", "add", "k", "twice"]) for term in others]
            self.check_graph(MIXED, GraphMaker(source, MIXED, *renamed).graph(), seen)
        self.assertGreater(min([seen[kind] for kind in (
            "exposed", "stepped", "branched", "split", "folded", "left", "read off")]), 100)

    def test_graphs_of_large_terms(self):
        source = random.Random(20)
        seen = {}
        program = read_program("f ?0 = B ?0 ?0\ng A = f\ng (B ?0) = C ?0 ?0\nh ?0 = g (f ?0)\n")
        for _ in range(500):
            start = random_start(source, source.randint(30, 60), [4, 2])
            self.check_graph(program, closed_session(source, program, start).graph(), seen)
            self.check_graph(program, GraphMaker(source, program, start).graph(), seen)
        self.assertGreater(min(seen["too large"], seen["read off"]), 20)


if __name__ == "__main__":
    unittest.main()
