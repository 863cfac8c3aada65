import unittest

from drivefold.matching import generalize, match
from drivefold.terms import put, same, size, unknowns
from drivefold.termtexts import read_term, write_term
from tests.samples import chain, plain_generalize, plain_match, small_terms


class MatchTests(unittest.TestCase):
    def check(self, pattern, term, wanted):
        parts = match(read_term(pattern), read_term(term))
        if wanted is None:
            self.assertIsNone(parts)
        else:
            self.assertIsInstance(parts, tuple)
            self.assertEqual([(unknown, write_term(part)) for unknown, part in parts], list(wanted))

    def test_a_part_for_each_unknown_in_the_order_of_their_first_places(self):
        self.check("f ?3 (g ?0 ?3) ?1", "f A (g (S B) A) C", ((3, "A"), (0, "S B"), (1, "C")))
        self.check("f ?9999 ?0", "f ?0 ?9999", ((9999, "?0"), (0, "?9999")))
        self.check("f (g ?2) (g ?1)", "f (g A) (g B)", ((2, "A"), (1, "B")))

    def test_an_unknown_alone_matches_everything(self):
        for term in ("A", "?0", "?1", "f A (g ?0)"):
            self.check("?0", term, ((0, term),))

    def test_a_pattern_without_unknowns(self):
        self.check("f A (g B)", "f A (g B)", ())
        self.check("A", "A", ())
        self.check("A", "B", None)
        self.check("f A", "f B", None)

    def test_no_parts(self):
        self.check("f ?0", "g A", None)
        self.check("f ?0", "f", None)
        self.check("f ?0", "f A B", None)
        self.check("f ?0 ?1", "f A", None)
        self.check("f", "f A", None)
        self.check("f A", "f", None)
        self.check("f (g ?0)", "f (h A)", None)
        self.check("f A", "f ?0", None)
        self.check("A", "?0", None)

    def test_a_repeated_unknown(self):
        self.check("f ?0 ?0", "f A A", ((0, "A"),))
        self.check("f ?0 ?0", "f A B", None)
        self.check("f ?0 ?0", "f (g ?1 A) (g ?1 A)", ((0, "g ?1 A"),))
        self.check("f ?0 ?0", "f (g A) (g B)", None)
        self.check("f ?0 ?0", "f (g A) (g A B)", None)
        self.check("f ?0 ?1 ?0", "f ?1 ?0 ?1", ((0, "?1"), (1, "?0")))
        self.check("f ?0 ?0", "f ?0 ?1", None)

    def test_an_unknown_with_arguments_matches_by_applications(self):
        self.check("?0 A", "f B A", ((0, "f B"),))
        self.check("?0 A", "f A", ((0, "f"),))
        self.check("?0 ?1", "f A (g B)", ((0, "f A"), (1, "g B")))
        self.check("?0 ?1 ?2", "f A B C", ((0, "f A"), (1, "B"), (2, "C")))
        self.check("?0 A", "?1 B A", ((0, "?1 B"),))
        self.check("?0 A", "f A B", None)
        self.check("?0 A", "f", None)
        self.check("?0 A", "A", None)
        self.check("?0 A B", "f B", None)
        self.check("?0 A", "?0", None)

    def test_an_unknown_with_and_without_arguments(self):
        self.check("?0 (?0 A)", "f B (f B A)", ((0, "f B"),))
        self.check("?0 (?0 A)", "f B (f C A)", None)
        self.check("f ?0 (?0 A)", "f (g B) (g B A)", ((0, "g B"),))
        self.check("?0 ?0", "f A (f A)", ((0, "f A"),))
        self.check("?0 ?0", "f (f A)", None)

    def test_what_was_passed_stays_as_it_was(self):
        pattern, term = read_term("?0 (g ?1)"), read_term("f A (g ?0)")
        match(pattern, term)
        self.assertEqual((write_term(pattern), write_term(term)), ("?0 (g ?1)", "f A (g ?0)"))

    def test_many_arguments_and_many_levels(self):
        pattern = ("f", tuple([(98 - number, ()) for number in range(99)]))
        term = ("f", tuple([(f"a{number}", ()) for number in range(99)]))
        self.assertEqual(match(pattern, term), tuple([(98 - number, (f"a{number}", ())) for number in range(99)]))
        self.assertEqual(match(chain("S", 99, 0), chain("S", 99, "B")), ((0, ("B", ())),))
        self.assertIsNone(match(chain("S", 99, 0), chain("S", 98)))
        parts = match(("f", ((0, ()), (0, ()))), ("f", (chain("S", 5000), chain("S", 5000))))
        self.assertEqual([(unknown, size(part)) for unknown, part in parts], [(0, 5001)])

    def test_all_small_terms(self):
        terms = small_terms((0, 1, "f", "A"), 3)
        for pattern in terms:
            for term in terms:
                found = {}
                wanted = tuple(found.items()) if plain_match(pattern, term, found) else None
                parts = match(pattern, term)
                self.assertEqual(parts, wanted, (pattern, term))
                if parts is not None:
                    self.assertEqual(put(pattern, parts), term)
                    self.assertEqual(tuple([unknown for unknown, _ in parts]), unknowns(pattern))

    def test_a_pattern_matches_what_parts_make_it(self):
        parts_tried = (((0, ("g", (("B", ()),))), (1, (1, ()))), ((0, (1, ())), (1, ("f", ((0, ()), (1, ()))))))
        for pattern in small_terms((0, 1, "f"), 4):
            for parts in parts_tried:
                wanted = tuple([(unknown, dict(parts)[unknown]) for unknown in unknowns(pattern)])
                self.assertEqual(match(pattern, put(pattern, parts)), wanted)


class GeneralizeTests(unittest.TestCase):
    def check(self, first, second, body, first_parts, second_parts):
        found = generalize(read_term(first), read_term(second))
        self.assertIsInstance(found, tuple)
        self.assertIsInstance(found[1], tuple)
        self.assertIsInstance(found[2], tuple)
        written = (write_term(found[0]), [write_term(part) for part in found[1]], [write_term(part) for part in found[2]])
        self.assertEqual(written, (body, list(first_parts), list(second_parts)))

    def test_the_example_of_the_document(self):
        self.check("f A B", "g B", "?0 B", ("f A",), ("g",))

    def test_equal_terms_without_unknowns(self):
        self.check("A", "A", "A", (), ())
        self.check("f A (g B)", "f A (g B)", "f A (g B)", (), ())

    def test_different_names(self):
        self.check("A", "B", "?0", ("A",), ("B",))
        self.check("f A", "g A", "?0 A", ("f",), ("g",))
        self.check("f A", "B", "?0", ("f A",), ("B",))
        self.check("B", "f A", "?0", ("B",), ("f A",))

    def test_an_unknown_never_stands_for_itself(self):
        self.check("?5", "?5", "?0", ("?5",), ("?5",))
        self.check("f ?3 ?1", "f ?3 ?2", "f ?0 ?1", ("?3", "?1"), ("?3", "?2"))
        self.check("?0 A", "?0 A", "?0 A", ("?0",), ("?0",))
        self.check("A", "?0", "?0", ("A",), ("?0",))

    def test_numbers_in_the_order_of_the_first_places(self):
        self.check("f (g A) B C", "f (g D) E F", "f (g ?0) ?1 ?2", ("A", "B", "C"), ("D", "E", "F"))
        self.check("f (g A B) C", "h (g B A) C", "?0 (g ?1 ?2) C", ("f", "A", "B"), ("h", "B", "A"))

    def test_the_same_unknown_for_the_same_pair(self):
        self.check("f A B A", "f C D C", "f ?0 ?1 ?0", ("A", "B"), ("C", "D"))
        self.check("f A (g A)", "f (h B) (g (h B))", "f ?0 (g ?0)", ("A",), ("h B",))
        self.check("f (S A) A (S A)", "f A (S A) A", "f ?0 ?1 ?0", ("S A", "A"), ("A", "S A"))
        self.check("f A A", "f B C", "f ?0 ?1", ("A", "A"), ("B", "C"))
        self.check("f A (f A)", "g B (g B)", "?0 ?1 (?0 ?1)", ("f", "A"), ("g", "B"))
        self.check("f ?1 ?1", "f ?1 ?1", "f ?0 ?0", ("?1",), ("?1",))

    def test_different_numbers_of_arguments(self):
        self.check("f A B", "f B", "?0 B", ("f A",), ("f",))
        self.check("f A", "f", "?0", ("f A",), ("f",))
        self.check("f", "f A", "?0", ("f",), ("f A",))
        self.check("f A B C", "f C", "?0 C", ("f A B",), ("f",))
        self.check("?3 A", "f B A", "?0 A", ("?3",), ("f B",))
        self.check("f A (g A B)", "f A (g B)", "f A (?0 B)", ("g A",), ("g",))

    def test_what_was_passed_stays_as_it_was(self):
        first, second = read_term("f ?3 (g A)"), read_term("g B (g A)")
        generalize(first, second)
        self.assertEqual((write_term(first), write_term(second)), ("f ?3 (g A)", "g B (g A)"))

    def test_many_arguments_and_many_levels(self):
        first = ("f", tuple([(f"a{number}", ()) for number in range(99)]))
        second = ("f", tuple([(f"b{number}", ()) for number in range(99)]))
        body = ("f", tuple([(number, ()) for number in range(99)]))
        self.assertEqual(generalize(first, second), (body, first[1], second[1]))
        wanted = (chain("S", 99, 0), (("A", ()),), (("B", ()),))
        self.assertEqual(generalize(chain("S", 99), chain("S", 99, "B")), wanted)
        body, first_parts, second_parts = generalize(chain("S", 5000), chain("S", 2000))
        self.assertTrue(same(body, chain("S", 2000, 0)))
        self.assertTrue(same(first_parts[0], chain("S", 3000)))
        self.assertEqual(second_parts, (("A", ()),))

    def test_all_small_terms(self):
        terms = small_terms((0, 3, "f", "A"), 3)
        for first in terms:
            for second in terms:
                pairs = []
                wanted = plain_generalize(first, second, pairs)
                found = generalize(first, second)
                parts = (tuple([pair[0] for pair in pairs]), tuple([pair[1] for pair in pairs]))
                self.assertEqual(found, (wanted, *parts), (first, second))
                self.assertEqual(put(found[0], tuple(enumerate(found[1]))), first)
                self.assertEqual(put(found[0], tuple(enumerate(found[2]))), second)


if __name__ == "__main__":
    unittest.main()
