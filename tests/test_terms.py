import unittest

from drivefold.terms import applied, names, put, same, size, unknowns
from drivefold.termtexts import read_term, write_term
from tests.samples import chain, plain_put, small_terms


def wide(head, many):
    return (head, tuple([(f"a{number}", ()) for number in range(many)]))


class SizeTests(unittest.TestCase):
    def test_ordinary_terms(self):
        self.assertEqual(size(("A", ())), 1)
        self.assertEqual(size((0, ())), 1)
        self.assertEqual(size(read_term("add (S ?0) ?1")), 4)

    def test_heads_count_as_often_as_they_stand_there(self):
        self.assertEqual(size(read_term("f A A (f A ?0 ?0)")), 7)
        self.assertEqual(size(read_term("?0 ?0 (?0 ?0)")), 4)

    def test_many_arguments_and_many_levels(self):
        self.assertEqual(size(wide("f", 99)), 100)
        self.assertEqual(size(chain("S", 99)), 100)
        self.assertEqual(size(chain("S", 5000)), 5001)


class HeadTests(unittest.TestCase):
    def test_unknowns_in_the_order_of_their_first_places(self):
        self.assertEqual(unknowns(read_term("f ?3 (g ?1 ?3) ?0 ?1")), (3, 1, 0))
        self.assertEqual(unknowns(read_term("f (g (h ?2) ?1) ?0")), (2, 1, 0))

    def test_an_unknown_as_a_head_stands_before_its_arguments(self):
        self.assertEqual(unknowns(read_term("?5 ?2 (?7 ?5) ?1")), (5, 2, 7, 1))

    def test_names_in_the_order_of_their_first_places(self):
        self.assertEqual(names(read_term("add (S (add Z ?0)) (f Z)")), ("add", "S", "Z", "f"))
        self.assertEqual(names(read_term("?0 B (C A) B")), ("B", "C", "A"))

    def test_terms_without_any(self):
        self.assertEqual(unknowns(("A", ())), ())
        self.assertEqual(names((0, ())), ())
        self.assertEqual(unknowns(read_term("f A (g B)")), ())
        self.assertEqual(names(read_term("?0 ?1 (?2 ?0)")), ())

    def test_least_and_greatest_numbers(self):
        self.assertEqual(unknowns(read_term("f ?9999 ?0")), (9999, 0))

    def test_many_arguments_and_many_levels(self):
        self.assertEqual(names(wide("f", 99)), ("f", *[f"a{number}" for number in range(99)]))
        self.assertEqual(names(chain("S", 5000)), ("S", "A"))
        self.assertEqual(unknowns(chain(3, 5000, 4)), (3, 4))
        self.assertEqual(unknowns(("f", tuple([(99 - number, ()) for number in range(99)]))), tuple(range(99, 0, -1)))


class AppliedTests(unittest.TestCase):
    def test_further_arguments_stand_behind(self):
        self.assertEqual(applied(("f", ()), (("A", ()),)), ("f", (("A", ()),)))
        self.assertEqual(write_term(applied(read_term("f A"), (read_term("g B"), (0, ())))), "f A (g B) ?0")
        self.assertEqual(write_term(applied((0, ()), (read_term("A"),))), "?0 A")

    def test_no_further_arguments(self):
        for text in ("A", "?0", "f A (g B)"):
            self.assertEqual(applied(read_term(text), ()), read_term(text))

    def test_an_application_is_its_function_part_applied_to_its_argument_part(self):
        for term in small_terms((0, "f"), 4):
            if term[1]:
                self.assertEqual(applied((term[0], term[1][:-1]), (term[1][-1],)), term)

    def test_many_arguments_and_many_levels(self):
        self.assertEqual(applied(wide("f", 50), wide("g", 50)[1])[1], wide("f", 50)[1] + wide("g", 50)[1])
        self.assertEqual(size(applied(chain("S", 2000), (chain("S", 2000),))), 4002)


class PutTests(unittest.TestCase):
    def check(self, text, parts, wanted):
        parts = tuple([(unknown, read_term(part)) for unknown, part in parts])
        self.assertEqual(write_term(put(read_term(text), parts)), wanted)

    def test_each_place_gets_the_part(self):
        self.check("add ?0 (S ?1)", ((0, "Z"), (1, "f A")), "add Z (S (f A))")
        self.check("f ?2 (g ?2) ?2", ((2, "S A"),), "f (S A) (g (S A)) (S A)")
        self.check("?0", ((0, "f A"),), "f A")

    def test_all_parts_at_once(self):
        self.check("f ?0 ?1", ((0, "?1"), (1, "?0")), "f ?1 ?0")
        self.check("f ?0 ?1", ((1, "?0"), (0, "?1")), "f ?1 ?0")
        self.check("f ?0", ((0, "S ?0"),), "f (S ?0)")
        self.check("?0 ?1", ((0, "?1 ?0"), (1, "g ?0 ?1")), "?1 ?0 (g ?0 ?1)")

    def test_an_unknown_with_arguments(self):
        self.check("?0 A", ((0, "f"),), "f A")
        self.check("?0 A", ((0, "f B"),), "f B A")
        self.check("?0 (?0 ?1)", ((0, "f B"), (1, "C")), "f B (f B C)")
        self.check("?0 (g ?0)", ((0, "?0 A"),), "?0 A (g (?0 A))")
        self.check("?0 ?1", ((0, "add (S ?1)"), (1, "?0")), "add (S ?1) ?0")

    def test_unknowns_without_a_part_stay(self):
        self.check("f ?0 ?1 (?2 ?0)", ((0, "A"),), "f A ?1 (?2 A)")
        self.check("?1 ?0", ((0, "A"),), "?1 A")

    def test_parts_whose_unknown_does_not_stand_there(self):
        self.check("f ?0", ((1, "A"), (0, "B")), "f B")
        self.check("f A", ((0, "B"),), "f A")

    def test_no_parts(self):
        for text in ("A", "?0", "?9999 ?0 (f ?1)"):
            self.check(text, (), text)

    def test_least_and_greatest_numbers(self):
        self.check("f ?0 ?9999", ((9999, "A"), (0, "B")), "f B A")

    def test_what_was_passed_stays_as_it_was(self):
        term, parts = read_term("f ?0 (?1 ?0)"), ((0, read_term("g ?1")), (1, read_term("h ?0 A")))
        put(term, parts)
        self.assertEqual(term, ("f", ((0, ()), (1, ((0, ()),)))))
        self.assertEqual(parts, ((0, ("g", ((1, ()),))), (1, ("h", ((0, ()), ("A", ()))))))

    def test_many_arguments_and_many_levels(self):
        term = ("f", tuple([(number, ()) for number in range(99)]))
        parts = tuple([(number, (f"a{number}", ())) for number in range(99)])
        self.assertEqual(put(term, parts), wide("f", 99))
        self.assertEqual(write_term(put(chain("S", 99, 0), ((0, chain("S", 99)),))), write_term(chain("S", 198)))
        deep = put(chain(1, 2000, 0), ((0, chain("S", 2000)), (1, ("S", ()))))
        self.assertTrue(same(deep, chain("S", 4000)))

    def test_all_small_terms(self):
        parts_tried = (((0, ("A", ())),), ((0, ("f", ((1, ()),))), (1, (0, ((0, ()),)))), ((1, ("g", ((0, ()),))),))
        for term in small_terms((0, 1, "f"), 4):
            for parts in parts_tried:
                self.assertEqual(put(term, parts), plain_put(term, parts))


class SameTests(unittest.TestCase):
    def test_all_small_terms(self):
        terms = small_terms((0, "f"), 3)
        for first in terms:
            for second in terms:
                self.assertEqual(same(first, second), first == second)

    def test_many_levels(self):
        self.assertTrue(same(chain("S", 5000), chain("S", 5000)))
        self.assertFalse(same(chain("S", 5000), chain("S", 5000, "B")))


if __name__ == "__main__":
    unittest.main()
