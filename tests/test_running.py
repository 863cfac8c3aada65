import random
import unittest

from drivefold.programtexts import read_program
from drivefold.running import demand, drive, run
from drivefold.terms import same, size
from drivefold.termtexts import read_term, write_term
from tests.programs import ADD, MIXED, random_program, random_start, terms
from tests.readings import plain_demand, plain_drive, plain_run
from tests.samples import chain

WIDE = read_program(
    f"all{''.join([f' ?{number}' for number in range(100)])} = D ?99 ?0\n"
    f"sel (C ?0 ?1 ?2 ?3 ?4 ?5){''.join([f' ?{number}' for number in range(6, 105)])} = D ?104 ?5 ?6 ?0\n")


class DemandTests(unittest.TestCase):
    def check(self, text, *wanted, program=MIXED):
        found = demand(program, read_term(text))
        if found[0] == "step":
            found = ("step", write_term(found[1]))
        self.assertEqual(found, wanted, text)

    def test_constructors_are_values(self):
        for text in ("Z", "S one", "Cons loop loop", "S ?0", "S (not Nil)"):
            self.check(text, "value")

    def test_functions_with_too_few_arguments_are_values(self):
        for text in ("id", "k", "k loop", "not", "map", "map ?0", "map (not Nil)", "twice id", "six"):
            self.check(text, "value")

    def test_plain_functions(self):
        self.check("one", "step", "S Z")
        self.check("id loop", "step", "loop")
        self.check("k A (not Nil)", "step", "A")
        self.check("twice ?3 A", "step", "?3 (?3 A)")
        self.check("loop", "step", "loop")
        self.check("id ?0", "step", "?0")

    def test_arguments_that_are_left(self):
        self.check("id k A B", "step", "k A B")
        self.check("id ?0 A", "step", "?0 A")
        self.check("one A", "step", "S Z A")
        self.check("twice (k A) B C D", "step", "k A (k A B) C D")
        self.check("add Z ?1 A", "step", "id ?1 A")
        self.check("add (S ?0) ?1 A", "step", "succ ?0 ?1 A")

    def test_rules(self):
        self.check("not True", "step", "False")
        self.check("map (Cons A ?0) not", "step", "Cons (not A) (map ?0 not)")
        self.check("add (S loop)", "step", "succ loop")
        self.check("six (C ?0 ?1 ?2 ?3 ?4 ?5) ?9", "step", "D ?5 ?4 ?3 ?2 ?1 ?0 ?9")

    def test_steps_of_the_first_argument(self):
        self.check("not (not True)", "step", "not False")
        self.check("not (not (not True))", "step", "not (not False)")
        self.check("map (map (map loop k) id) not A", "step", "map (map (map loop k) id) not A")
        self.check("add one (not Nil) B", "step", "add (S Z) (not Nil) B")

    def test_errors(self):
        self.check("not Nil", "error")
        self.check("not (True A)", "error")
        self.check("map Cons id", "error")
        self.check("map (Cons A) id", "error")
        self.check("map (Cons A B C) id", "error")
        self.check("not not", "error")
        self.check("not (k A)", "error")
        self.check("not (not Nil)", "error")
        self.check("add (not (S Z)) Z A", "error")
        self.check("six (C ?0 ?1 ?2 ?3 ?4) Z", "error")

    def test_unknowns(self):
        self.check("?0", "unknown", 0)
        self.check("?999", "unknown", 999)
        self.check("?7 A", "stuck", 7)
        self.check("?7 (not True)", "stuck", 7)
        self.check("not ?3", "needs", 3, "not")
        self.check("map ?3 ?4", "needs", 3, "map")
        self.check("not (not ?3)", "needs", 3, "not")
        self.check("not (map ?3 ?4)", "needs", 3, "map")
        self.check("map (not ?3) loop A", "needs", 3, "not")
        self.check("not (?3 A)", "stuck", 3)
        self.check("map (not (?3 A)) id", "stuck", 3)

    def test_no_parameters_and_a_hundred(self):
        many = "".join([f" A{number}" for number in range(100)])
        self.check(f"all{many}", "step", "D A99 A0", program=WIDE)
        self.check(f"all{many} B", "step", "D A99 A0 B", program=WIDE)
        self.check(f"all{many[:-4]}", "value", program=WIDE)
        self.check(f"sel (C B0 B1 B2 B3 B4 B5){many[:-4]}", "step", "D A98 B5 A0 B0", program=WIDE)
        self.check(f"sel (C B0 B1 B2 B3 B4 B5){many[:-8]}", "value", program=WIDE)

    def test_terms_of_the_greatest_sizes(self):
        term = chain("not", 99, "True")
        self.assertTrue(same(demand(MIXED, term)[1], chain("not", 98, "False")))
        term = chain("not", 99, 5)
        self.assertEqual(demand(MIXED, term), ("needs", 5, "not"))

    def test_many_levels(self):
        self.assertTrue(same(demand(MIXED, chain("not", 3000, "True"))[1], chain("not", 2999, "False")))
        self.assertEqual(demand(MIXED, chain("not", 3000, "Nil")), ("error",))
        self.assertEqual(demand(MIXED, chain("not", 3000, 4)), ("needs", 4, "not"))

    def test_what_was_passed_stays_as_it_was(self):
        term = read_term("map (Cons A ?0) not")
        demand(MIXED, term)
        self.assertEqual(term, read_term("map (Cons A ?0) not"))

    def test_random_programs(self):
        source = random.Random(12)
        seen = {}
        for _ in range(3000):
            program = random_program(source)
            term = random_start(source, source.randint(1, 12), [4, 2, 7])
            found = demand(program, term)
            self.assertEqual(found, plain_demand(program, term), (program, term))
            seen[found[0]] = seen.get(found[0], 0) + 1
        self.assertEqual(sorted(seen), ["error", "needs", "step", "stuck", "unknown", "value"])


class RunTests(unittest.TestCase):
    def check(self, text, steps, ending, value, done, program=MIXED):
        wanted = (ending, None if value is None else read_term(value), done)
        self.assertEqual(run(program, read_term(text), steps), wanted, text)

    def test_the_examples_of_the_document(self):
        self.check("add (S Z) (S Z)", 10, "value", "S (S Z)", 2, ADD)
        self.assertEqual(run(ADD, read_term("Cons (add Z) Nil"), 0), ("value", ("Cons", (("*", ()), ("Nil", ()))), 0))
        self.check("add Nil Z", 10, "error", None, 0, ADD)

    def test_whole_values(self):
        self.check("Z", 0, "value", "Z", 0)
        self.check("Cons (S Z) Nil", 2000, "value", "Cons (S Z) Nil", 0)

    def test_outermost_waiting_functions_are_shown_by_a_star(self):
        star = ("*", ())
        self.assertEqual(run(MIXED, read_term("not"), 5), ("value", star, 0))
        self.assertEqual(run(MIXED, read_term("map (Cons k id)"), 5), ("value", star, 0))
        self.assertEqual(run(MIXED, read_term("k loop"), 0), ("value", star, 0))
        self.assertEqual(run(MIXED, read_term("Cons (k (not Nil)) (S one not)"), 5),
                         ("value", ("Cons", (star, ("S", (("S", (("Z", ()),)), star)))), 1))

    def test_the_first_argument_that_is_not_whole_is_next(self):
        self.check("Cons (not Nil) loop", 9, "error", None, 0)
        self.check("Cons loop (not Nil)", 9, "open", None, 9)
        self.check("Cons one (not Nil)", 9, "error", None, 1)
        self.check("Cons (S (S one)) (Cons one (not Nil))", 9, "error", None, 2)
        self.check("Cons (id (not Nil)) one", 9, "error", None, 1)

    def test_a_step_of_the_term_itself_is_before_its_arguments(self):
        self.check("k A (not Nil)", 9, "value", "A", 1)
        self.check("k A loop", 9, "value", "A", 1)
        self.check("id (S one)", 9, "value", "S (S Z)", 2)

    def test_the_number_of_steps(self):
        term = "add (S (S (S Z))) Z"
        needed = 8
        for steps in range(12):
            if steps < needed:
                self.check(term, steps, "open", None, steps)
            else:
                self.check(term, steps, "value", "S (S (S Z))", needed)

    def test_errors_at_the_last_step_and_behind_it(self):
        self.check("id (not Nil)", 0, "open", None, 0)
        self.check("id (not Nil)", 1, "error", None, 1)
        self.check("id (not Nil)", 2, "error", None, 1)

    def test_no_steps_and_two_thousand(self):
        self.check("loop", 0, "open", None, 0)
        self.check("loop", 2000, "open", None, 2000)
        self.check("not Nil", 0, "error", None, 0)
        self.check("Z", 0, "value", "Z", 0)

    def test_sizes_of_250_and_251(self):
        # The body holds its parameter 24 times, and has 10 heads more.
        program = read_program(
            f"big ?0 = D{' ?0' * 24} A A A A A A A A A\n"
            "k ?0 ?1 = ?0\n")
        self.check("big (C A A A A A A A A A)", 5, "value",
                   f"D{' (C A A A A A A A A A)' * 24} A A A A A A A A A", 1, program)
        self.check("S (big (C A A A A A A A A A))", 5, "open", None, 1, program)
        self.check("big (C A A A A A A A A A A)", 5, "open", None, 1, program)
        self.check("k Z (big (C A A A A A A A A A A))", 5, "value", "Z", 1, program)

    def test_a_size_above_250_ends_the_run_with_the_step_that_leads_there(self):
        self.check("grow Z", 248, "open", None, 248)
        self.check("grow Z", 249, "open", None, 249)
        self.check("grow Z", 250, "open", None, 249)
        self.check("grow Z", 2000, "open", None, 249)
        program = read_program(f"big ?0 = D{' ?0' * 100}\nbad ?0 = fail Nil ?0\nfail Z ?0 = ?0\n")
        self.check("big (S (S A))", 2000, "open", None, 1, program)
        self.check("fail Z (big (S (S A)))", 2000, "open", None, 2, program)
        self.check("bad (big (big A))", 2000, "error", None, 1, program)
        self.check("big (big (S A))", 2000, "open", None, 1, program)

    def test_the_size_counts_waiting_functions_whole(self):
        program = read_program(f"wait ?0 ?1 = Z\nbig ?0 = wait (D{' ?0' * 100})\n")
        self.assertEqual(run(program, read_term("S (big A)"), 9), ("value", ("S", (("*", ()),)), 1))
        self.check("Cons (big A) (big (S (S A)))", 9, "open", None, 2, program)
        self.check("Cons (big A) (Cons (big A) (big A))", 9, "open", None, 3, program)

    def test_values_that_are_deep(self):
        program = read_program(f"deep ?0 = {'S (' * 100}S ?0{')' * 100}\n")
        ending, value, done = run(program, read_term("deep (deep Z)"), 9)
        self.assertEqual((ending, done), ("value", 2))
        self.assertTrue(same(value, chain("S", 202, "Z")))
        ending, value, done = run(program, chain("S", 99, "Z"), 0)
        self.assertTrue(same(value, chain("S", 99, "Z")))
        self.assertEqual(run(MIXED, chain("not", 99, "True"), 2000), ("value", ("False", ()), 99))
        self.assertEqual(run(MIXED, chain("not", 99, "Z"), 2000), ("error", None, 0))

    def test_a_hundred_parameters(self):
        many = "".join([f" A{number}" for number in range(98)])
        program = WIDE + MIXED
        self.check(f"all{many} (not Nil) one", 1, "open", None, 1, program)
        self.check(f"all{many} (not Nil) one", 2, "value", "D (S Z) A0", 2, program)
        self.check(f"all{many} Z (not Nil)", 2, "error", None, 1, program)

    def test_random_programs(self):
        source = random.Random(13)
        seen = {}
        for _ in range(1500):
            program = random_program(source)
            term = random_start(source, source.randint(1, 12), [])
            for steps in (0, source.randint(1, 8), 60):
                found = run(program, term, steps)
                self.assertEqual(found, plain_run(program, term, steps), (program, term))
                seen[found[0]] = seen.get(found[0], 0) + 1
        self.assertEqual(sorted(seen), ["error", "open", "value"])
        self.assertGreater(min(seen.values()), 300)

    def test_long_random_runs(self):
        source = random.Random(14)
        seen = {}
        for _ in range(150):
            program = random_program(source)
            term = random_start(source, 20, [])
            found = run(program, term, 300)
            self.assertEqual(found, plain_run(program, term, 300), (program, term))
            seen[found[0]] = seen.get(found[0], 0) + 1
        self.assertEqual(sorted(seen), ["error", "open", "value"])


class DriveTests(unittest.TestCase):
    def check(self, text, *wanted, program=MIXED):
        found = drive(program, read_term(text))
        self.assertIsInstance(found, tuple)
        self.assertEqual([write_term(term) for term in found], list(wanted), text)

    def test_the_term_behind_a_step(self):
        self.check("not True", "False")
        self.check("not (not (id ?0))", "not (not ?0)")
        self.check("grow ?4", "grow (S ?4)")
        self.check("loop", "loop")

    def test_one_term_for_each_rule(self):
        self.check("add (add ?0 ?1) ?2", "add ?1 ?2", "add (S (add ?3 ?1)) ?2", program=ADD)
        self.check("not ?0", "False", "True")
        self.check("not (not ?999)", "not False", "not True")

    def test_fresh_unknowns_are_behind_the_greatest_one(self):
        self.check("map ?3 ?9", "Nil", "Cons (?9 ?10) (map ?11 ?9)")
        self.check("map ?3 (k ?1)", "Nil", "Cons (k ?1 ?4) (map ?5 (k ?1))")
        self.check("map ?999 Z", "Nil", "Cons (Z ?1000) (map ?1001 Z)")
        self.check("six ?8 (k ?20)", "D ?26 ?25 ?24 ?23 ?22 ?21 (k ?20)")

    def test_what_is_learnt_is_put_in_everywhere(self):
        self.check("add ?0 (S ?0)", "S Z", "S (add ?1 (S (S ?1)))", program=ADD)
        self.check("map ?0 (?0 A)", "Nil", "Cons (Cons ?1 ?2 A ?1) (map ?2 (Cons ?1 ?2 A))")
        self.check("not (map ?0 ?0) ?0", "not Nil Nil",
                   "not (Cons (Cons ?1 ?2 ?1) (map ?2 (Cons ?1 ?2))) (Cons ?1 ?2)")

    def test_nothing(self):
        for text in ("Z", "S ?0", "not", "map ?0", "?0", "?0 A", "not Nil", "not (?0 A)", "map (not not) ?0", "k ?0"):
            self.check(text)

    def test_terms_of_the_greatest_sizes(self):
        found = drive(MIXED, chain("not", 99, 7))
        self.assertEqual(found, (chain("not", 98, "False"), chain("not", 98, "True")))
        found = drive(ADD, ("add", ((3, ()), chain("S", 97, 3))))
        self.assertEqual([size(term) for term in found], [98, 102])

    def test_random_programs(self):
        source = random.Random(15)
        lengths = {}
        for _ in range(3000):
            program = random_program(source)
            term = random_start(source, source.randint(1, 12), [4, 2, 7])
            found = drive(program, term)
            self.assertEqual(found, plain_drive(program, term), (program, term))
            lengths[len(found)] = lengths.get(len(found), 0) + 1
        self.assertEqual(sorted(lengths), [0, 1, 2, 3])

    def test_what_was_passed_stays_as_it_was(self):
        term = read_term("map ?3 (k ?1)")
        drive(MIXED, term)
        self.assertEqual((term,), terms("map ?3 (k ?1)"))


if __name__ == "__main__":
    unittest.main()
