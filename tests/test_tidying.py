import random
import unittest

from drivefold.errors import TooLarge
from drivefold.programtexts import read_program, write_program
from drivefold.residuals import residual
from drivefold.terms import names, put, unknowns
from drivefold.termtexts import read_term
from drivefold.tidying import tidy
from tests.answers import check_answers
from tests.graphs import closed_session
from tests.judges import session_of
from tests.programs import ADD, MIXED, REV, random_body, random_program, random_start, rename, terms
from tests.readings import heads, plain_size, put_in
from tests.samples import chain

MIXED_TERMS = terms("Z", "one", "S one", "add one", "not", "Nil", "Cons True Nil", "Cons one (Cons False Nil)", "k A", "S",
                    "add one one", "not True")


def plain_bodies(function):
    return [function[3]] if function[0] == "plain" else [rule[2] for rule in function[3]]


def plain_reached(program, keep):
    """Section 26: the names of the reached functions."""
    found = list(keep)
    for name in found:
        function = [function for function in program if function[1] == name][0]
        called = [head for body in plain_bodies(function) for head in heads(body)]
        found += [other[1] for other in program if other[1] in called and other[1] not in found]
    return found


def calls(body, name):
    """The numbers of arguments with which the name stands in the body."""
    return ([len(body[1])] if body[0] == name else []) + [
        count for argument in body[1] for count in calls(argument, name)]


def plain_written(body, function):
    arguments = tuple([plain_written(argument, function) for argument in body[1]])
    return put_in(function[3], arguments, function[2]) if body[0] == function[1] else (body[0], arguments)


def plain_tidy(program, keep):
    """Section 26, one step after the other."""
    names_reached = plain_reached(program, keep)
    program = tuple([function for function in program if function[1] in names_reached])
    for function in program:
        kind, name, parameters, told = function
        if kind != "plain" or name in keep or calls(told, name):
            continue
        counts = [count for other in program for body in plain_bodies(other) for count in calls(body, name)]
        if len(counts) != 1 or counts[0] < parameters:
            continue
        written = []
        for other_kind, other_name, count, rest in program:
            if other_kind == "plain":
                rest = plain_written(rest, function)
            else:
                rest = tuple([(word, fields, plain_written(body, function)) for word, fields, body in rest])
            written.append((other_kind, other_name, count, rest))
        if all([plain_size(body) <= 120 for other in written for body in plain_bodies(other)]):
            return plain_tidy(tuple(written), keep)
    return program


class TidyTests(unittest.TestCase):
    def check(self, text, keep, wanted):
        program = read_program(text)
        names_kept = tuple(keep.split())
        found = tidy(program, names_kept)
        self.assertEqual(write_program(found), wanted)
        self.assertEqual(plain_tidy(program, names_kept), found)
        self.assertEqual(tidy(found, names_kept), found)
        self.assertEqual(write_program(program), text)

    def same(self, text, keep):
        self.check(text, keep, text)


class ReachedTests(TidyTests):
    def test_functions_that_are_not_reached_go(self):
        self.check("f ?0 = A\ng ?0 = B\n", "f", "f ?0 = A\n")
        self.check("f ?0 = A\ng ?0 = B\n", "g", "g ?0 = B\n")
        self.check("f ?0 = A\ng ?0 = g ?0\nh ?0 = g (h ?0)\n", "f", "f ?0 = A\n")
        self.check("f = g A\ng A = A\nh A = g f\n", "g", "g A = A\n")

    def test_kept_functions_stay(self):
        self.same("f ?0 = A\ng ?0 = B\n", "f g")
        self.same("f ?0 = A\ng ?0 = B\n", "g f")
        self.same("f ?0 = A\ng ?0 = B\n", "g f g g")

    def test_nothing_is_kept(self):
        self.check("f ?0 = A\ng ?0 = g ?0\n", "", "")
        self.check("", "", "")

    def test_functions_that_are_reached_by_others(self):
        self.same("f A = g A\ng A = h A\nh A = f A\n", "f")
        self.same("f A = g A\ng A = h A\nh A = f A\n", "h")
        self.check("k A = A\nf A = g A\nl A = k A\ng A = h A\nh A = A\n", "f", "f A = g A\ng A = h A\nh A = A\n")

    def test_each_rule_counts(self):
        self.same("f A = A\nf B = B\nf C = g A\ng A = B\ng B = h A\nh A = A\n", "f")

    def test_the_order_stays(self):
        self.check("c A = A\nb A = c A\nx A = A\na A = b A\n", "a", "c A = A\nb A = c A\na A = b A\n")

    def test_constructors_and_unknowns_are_no_functions(self):
        self.check("f ?0 = G (H ?0)\ng ?0 = A\nh A = A\n", "f", "f ?0 = G (H ?0)\n")


class WrittenTests(TidyTests):
    def test_the_application_is_replaced(self):
        self.check("f ?0 = S (g ?0 A)\ng ?0 ?1 = C ?1 ?0\n", "f", "f ?0 = S (C A ?0)\n")
        self.check("f A ?0 = g ?0\nf (B ?0) ?1 = S (f ?0 ?1)\ng ?0 = T ?0\n", "f",
                   "f A ?0 = T ?0\nf (B ?0) ?1 = S (f ?0 ?1)\n")
        self.check("f A ?0 = f ?0 A\nf (B ?0) ?1 = S (g ?1 ?0)\ng ?0 ?1 = f ?1 ?0\n", "f",
                   "f A ?0 = f ?0 A\nf (B ?0) ?1 = S (f ?0 ?1)\n")

    def test_a_function_without_parameters(self):
        self.check("f = S g\ng = A\n", "f", "f = S A\n")
        self.check("f = S (g B)\ng = h\nh A = A\n", "f", "f = S (h B)\nh A = A\n")

    def test_arguments_that_are_left(self):
        self.check("f ?0 = g ?0 A B\ng ?0 = C ?0\n", "f", "f ?0 = C ?0 A B\n")
        self.check("f ?0 = g ?0 A B\ng ?0 = ?0\n", "f", "f ?0 = ?0 A B\n")
        self.check("f ?0 ?1 = g (h ?1) ?0\ng ?0 = ?0\nh A ?0 = A\n", "f", "f ?0 ?1 = h ?1 ?0\nh A ?0 = A\n")

    def test_arguments_that_are_said_twice_or_not_at_all(self):
        self.check("f ?0 = g (S ?0) ?0\ng ?0 ?1 = C ?0 ?0\n", "f", "f ?0 = C (S ?0) (S ?0)\n")

    def test_arguments_are_put_in_all_at_once(self):
        self.check("f ?0 ?1 = g ?1 ?0\ng ?0 ?1 = C ?0 (D ?1)\n", "f", "f ?0 ?1 = C ?1 (D ?0)\n")
        self.check("f ?0 ?1 ?2 = g ?2 (?1 ?0)\ng ?0 ?1 = ?1 ?0\n", "f", "f ?0 ?1 ?2 = ?1 ?0 ?2\n")

    def test_functions_that_are_not_reached_any_more_go(self):
        self.check("f ?0 = g (h A) ?0\ng ?0 ?1 = ?1\nh A = A\n", "f", "f ?0 = ?0\n")
        self.check("f ?0 = g (h A)\ng ?0 = A\nh A = k A\nk A = h A\n", "f", "f ?0 = A\n")

    def test_a_function_that_is_said_twice_behind_it_is_not_written(self):
        self.same("f ?0 = C (h ?0) (h ?0)\nh ?0 = S ?0\n", "f")
        # The second function is said once until the first one is written in place.
        self.check("f ?0 = g (h ?0)\ng ?0 = C ?0 ?0\nh ?0 = S ?0\n", "f", "f ?0 = C (h ?0) (h ?0)\nh ?0 = S ?0\n")
        self.check("f ?0 = g (h ?0)\nh ?0 = S ?0\ng ?0 = C ?0 ?0\n", "f", "f ?0 = C (S ?0) (S ?0)\n")

    def test_the_first_function_is_written_first(self):
        self.check("a = b\nb = c\nc = d\nd = A\n", "a", "a = A\n")
        self.check("b ?0 = c ?0 ?0\nc ?0 ?1 = d ?0\nd ?0 = d ?0\na ?0 = b ?0\n", "a", "d ?0 = d ?0\na ?0 = d ?0\n")

    def test_a_function_that_can_be_written_only_later(self):
        # The second use goes with the function that is written in place first.
        self.check("f ?0 = C (g ?0) (h (g ?0))\ng ?0 = S ?0\nh ?0 = A\n", "f", "f ?0 = C (S ?0) A\n")

    def test_kept_functions_are_not_written(self):
        self.same("f ?0 = g ?0\ng ?0 = S ?0\n", "f g")
        self.check("f ?0 = g ?0\ng ?0 = h ?0\nh ?0 = S ?0\n", "f g", "f ?0 = g ?0\ng ?0 = S ?0\n")

    def test_functions_by_cases_are_not_written(self):
        self.same("f ?0 = g ?0\ng A = B\n", "f")
        self.same("f = g\ng A = B\n", "f")

    def test_functions_that_name_themselves_are_not_written(self):
        self.same("f ?0 = g ?0\ng ?0 = S (g ?0)\n", "f")
        self.same("f ?0 = g ?0\ng ?0 = g\n", "f")
        self.check("f = g\ng = h\nh = g\n", "f", "f = g\ng = g\n")
        self.check("f = g\nh = g\ng = h\n", "f", "f = g\ng = g\n")

    def test_too_few_arguments(self):
        self.same("f ?0 = g ?0\ng ?0 ?1 = A\n", "f")
        self.same("f ?0 = h g\ng ?0 = A\nh A = A\n", "f")
        self.check("f ?0 = g ?0 ?0\ng ?0 ?1 = A\n", "f", "f ?0 = A\n")
        # There are enough of them as soon as the other function is written in place.
        self.check("f ?0 = h g ?0\ng ?0 = S ?0\nh ?0 ?1 = ?0 ?1\n", "f", "f ?0 = S ?0\n")

    def test_a_size_of_120_and_of_121(self):
        for count, wanted in ((118, True), (119, False)):
            text = f"f ?0 = S (g ?0)\ng ?0 = C ?0{' A' * (count - 1)}\n"
            self.check(text, "f", f"f ?0 = S (C ?0{' A' * (count - 1)})\n" if wanted else text)
        big = f"C{' A' * 57}"
        self.check(f"f = g ({big})\ng ?0 = D ?0 ?0 A A A\n", "f", f"f = D ({big}) ({big}) A A A\n")
        self.same(f"f = g ({big})\ng ?0 = D ?0 ?0 A A A A\n", "f")

    def test_a_function_that_is_too_large_is_passed_over(self):
        big = f"C{' A' * 118}"
        self.check(f"f = E g h\ng = {big}\nh = A\n", "f", f"f = E g A\ng = {big}\n")
        self.check(f"f = E g (k (h A))\ng = {big}\nh ?0 = {big}\nk ?0 = B\n", "f", f"f = E g B\ng = {big}\n")

    def test_a_function_fits_when_another_one_is_gone(self):
        big = f"C{' A' * 99}"
        # The first function does not fit before the last one drops an argument.
        self.check(f"f = E g (h (D{' B' * 30}))\ng = {big}\nh ?0 = B\n", "f", f"f = E ({big}) B\n")

    def test_all_rules_and_functions_count(self):
        self.same("f A = g A\nf B = g B\ng ?0 = S ?0\n", "f")
        self.same("f ?0 = g A\nh ?0 = g B\ng ?0 = S ?0\n", "f h")
        self.check("f ?0 = g A\nh ?0 = g B\ng ?0 = S ?0\n", "f", "f ?0 = S A\n")
        self.check("f ?0 = g A\nh ?0 = g B\nk = h\ng ?0 = S ?0\n", "f", "f ?0 = S A\n")

    def test_deep_bodies(self):
        program = (("plain", "f", 1, chain("S", 50, "g")), ("plain", "g", 0, chain("T", 60, "A")))
        self.assertEqual(plain_size(tidy(program, ("f",))[0][3]), 111)
        program = (("plain", "f", 1, ("g", (chain("S", 59, 0),))), ("plain", "g", 1, chain("T", 59, 0)))
        self.assertEqual(len(tidy(program, ("f",))), 1)

    def test_programs_of_many_lines(self):
        text = "".join([f"f{number} ?0 = f{number + 1} (S ?0)\n" for number in range(199)]) + "f199 ?0 = ?0\n"
        found = tidy(read_program(text), ("f0",))
        self.assertEqual(found, plain_tidy(read_program(text), ("f0",)))
        self.assertEqual([function[1] for function in found], ["f0", "f118"])
        self.assertEqual([plain_size(function[3]) for function in found], [120, 82])


class ResidualTests(TidyTests):
    def test_residual_programs(self):
        session = session_of(REV, "rev ?0 Nil")
        session.auto()
        found, term = residual(REV, session.graph())
        self.assertEqual(names(term), ("r0x0",))
        self.check(write_program(found), "r0x0", (
            "r0x0 Nil = Nil\nr0x0 (Cons ?0 ?1) = r0x3 ?1 (Cons ?0 Nil)\n"
            "r0x3 Nil ?0 = ?0\nr0x3 (Cons ?0 ?1) ?2 = r0x3 ?1 (Cons ?0 ?2)\n"))

    def test_a_function_of_which_the_only_call_is_written(self):
        self.check("add Z ?0 = ?0\nadd (S ?0) ?1 = S (add ?0 ?1)\nr0x0 ?0 = r0x1 ?0 Z\nr0x1 ?0 ?1 = add ?0 (S ?1)\n",
                   "r0x0", "add Z ?0 = ?0\nadd (S ?0) ?1 = S (add ?0 ?1)\nr0x0 ?0 = add ?0 (S Z)\n")


def plain_program(source):
    """A program of mostly plain functions, as there is something to write in place."""
    known = ["f", "g", "h", "k", "m", "n"]
    program = []
    for at, name in enumerate(known):
        parameters = source.randint(0, 2)
        called = source.sample(known[at:], min(2, len(known) - at)) if source.random() < 0.8 else known
        if parameters and source.random() < 0.3:
            rules = [(word, fields, random_body(source, fields + parameters - 1, called))
                     for word, fields in (("A", 0), ("B", 1), ("C", 2))]
            program.append(("cases", name, parameters, tuple(rules)))
        else:
            program.append(("plain", name, parameters, random_body(source, parameters, called)))
    source.shuffle(program)
    return tuple(program)


class RandomTests(unittest.TestCase):
    def check(self, program, keep):
        found = tidy(program, keep)
        self.assertEqual(found, plain_tidy(program, keep))
        self.assertEqual(tidy(found, keep), found, "tidying twice is tidying once")
        order = [function[1] for function in program]
        self.assertEqual([function[1] for function in found], [
            name for name in order if name in [function[1] for function in found]])
        return found

    def test_each_step(self):
        source = random.Random(44)
        seen = {}
        for _ in range(1500):
            program = plain_program(source)
            keep = tuple(source.sample("fghkmn", source.randint(1, 2)))
            found = self.check(program, keep)
            names_left = [function[1] for function in found]
            written = len([name for name in plain_reached(program, keep) if name not in names_left])
            seen[written] = seen.get(written, 0) + 1
        self.assertGreater(min([seen.get(count, 0) for count in (0, 1, 2, 3)]), 5, seen)

    def test_residual_programs(self):
        source = random.Random(45)
        for _ in range(150):
            program = random_program(source)
            start = random_start(source, source.randint(2, 12), [4, 2, 7])
            session = closed_session(source, program, start)
            try:
                found, term = residual(program, session.graph())
            except TooLarge:
                continue
            called = tuple([name for name in names(term) if name in [function[1] for function in found]])
            self.check(found, called)

    def test_answers(self):
        source = random.Random(43)
        seen = {}
        for _ in range(800):
            program = plain_program(source)
            keep = tuple(source.sample("fghkmn", source.randint(1, 3)))
            found = tidy(program, keep)
            for _ in range(3):
                term = rename(random_start(source, source.randint(1, 7), []), source, keep)
                check_answers(self, program, found, term, term, seen)
        for word in ("value", "error", "open", "in as many steps", "in fewer steps"):
            self.assertGreater(seen[word], 50, seen)

    def test_answers_of_residual_programs(self):
        source = random.Random(46)
        seen = {}
        for text in ("add (add ?0 ?1) ?2", "map (map ?0 not) not", "twice (add ?0) ?1", "map ?0 (twice ?1)", "add ?0 ?0"):
            for _ in range(12):
                start = read_term(text)
                found, term = residual(MIXED, closed_session(source, MIXED, start).graph())
                keep = tuple([name for name in names(term) if name[0].islower()]) + ("not", "add", "k", "one")
                for _ in range(6):
                    parts = tuple([(unknown, source.choice(MIXED_TERMS)) for unknown in unknowns(start)])
                    check_answers(self, found, tidy(found, keep), put(term, parts), put(term, parts), seen)
        self.assertGreater(min(seen["value"], seen["error"]), 20, seen)

    def test_known_programs(self):
        for program in (ADD, REV, MIXED):
            for function in program:
                self.check(program, (function[1],))
            self.assertEqual(self.check(program, tuple([function[1] for function in program])), program)


if __name__ == "__main__":
    unittest.main()
