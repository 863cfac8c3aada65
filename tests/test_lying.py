import random
import unittest

from drivefold.lying import within
from drivefold.termtexts import read_term
from tests.programs import random_term
from tests.readings import plain_within
from tests.samples import chain, small_terms


class WithinTests(unittest.TestCase):
    def check(self, first, second, wanted):
        self.assertIs(within(read_term(first), read_term(second)), wanted, (first, second))

    def test_the_examples_of_the_document(self):
        self.check("add ?0 ?1", "add (S ?2) ?1", True)
        self.check("add ?0 ?1", "add Z ?1", False)
        self.check("add Z", "add Z ?1", True)

    def test_an_unknown_within_every_unknown(self):
        self.check("?0", "?0", True)
        self.check("?0", "?7", True)
        self.check("f ?0 ?0", "f ?1 ?2", True)
        self.check("f ?0 ?1", "f ?2 ?2", True)
        self.check("?0", "A", False)
        self.check("A", "?0", False)
        self.check("?0", "f", False)

    def test_a_name_within_the_same_name(self):
        self.check("A", "A", True)
        self.check("A", "B", False)
        self.check("f", "f", True)
        self.check("f", "F", False)

    def test_within_the_function_part_or_the_argument_part(self):
        self.check("A", "f A", True)
        self.check("f", "f A", True)
        self.check("?0", "f (g (h ?3))", True)
        self.check("f A", "f A B", True)
        self.check("f A", "g B (h (f A) C)", True)
        self.check("f B", "f A B", True)
        self.check("f B", "g B A", False)
        self.check("A", "f B C", False)

    def test_both_parts_within_both_parts(self):
        self.check("f A B", "f (g A) (g B)", True)
        self.check("f A B", "f (g B) (g A)", False)
        self.check("f A", "f B (g A)", True)
        self.check("f A", "g A", False)
        self.check("f A", "g f A", True)
        self.check("f (g A)", "f (h (g (h A)))", True)
        self.check("f (g A)", "g (f A)", False)

    def test_an_unknown_with_arguments(self):
        self.check("?0", "?1 A", True)
        self.check("?0 A", "?1 A", True)
        self.check("?0 A", "?1 B A", True)
        self.check("?0 A", "f A", False)
        self.check("?0 A", "f ?1 A", True)
        self.check("f A", "?0 A", False)

    def test_a_larger_term_lies_in_no_smaller_one(self):
        self.check("f A", "A", False)
        self.check("f A", "f", False)
        self.check("f A B", "f A", False)

    def test_all_small_terms(self):
        terms = small_terms((0, 3, "f", "A"), 3)
        for first in terms:
            for second in terms:
                self.assertIs(within(first, second), plain_within(first, second), (first, second))

    def test_random_terms(self):
        source = random.Random(9)
        seen = []
        for _ in range(3000):
            first = random_term(source, source.randint(1, 4), [0, 1, "A"], [2, "f", "g"])
            second = random_term(source, source.randint(4, 12), [0, 1, "A"], [2, "f", "g"])
            seen.append(plain_within(first, second))
            self.assertIs(within(first, second), seen[-1], (first, second))
        self.assertGreater(min(seen.count(True), seen.count(False)), 300)

    def test_what_was_passed_stays_as_it_was(self):
        first, second = read_term("f ?0 (g A)"), read_term("f (h ?1) (g (g A))")
        within(first, second)
        self.assertEqual((first, second), (read_term("f ?0 (g A)"), read_term("f (h ?1) (g (g A))")))

    def test_large_terms_for_which_every_way_would_take_forever(self):
        # Whoever looks for the same places again and again does not come to an end here.
        self.assertIs(within(chain("f", 49), chain("f", 99)), True)
        self.assertIs(within(chain("f", 99), chain("f", 98)), False)
        self.assertIs(within(chain("f", 48, "g"), ("g", (chain("f", 98),))), False)
        one = ("f", (("A", ()), ("B", ())) * 24 + (("C", ()),))
        other = ("f", (("C", ()),) + (("A", ()), ("B", ())) * 49)
        self.assertIs(within(one, other), False)
        self.assertIs(within(one, ("f", other[1] + (("C", ()),))), True)

    def test_many_levels(self):
        self.assertIs(within(chain("S", 3, 1), chain("S", 3000, 0)), True)
        self.assertIs(within(chain("S", 3), chain("S", 3000, 0)), False)
        self.assertIs(within(chain("S", 400), chain("S", 401)), True)
        self.assertIs(within(chain("S", 401), chain("S", 400)), False)


if __name__ == "__main__":
    unittest.main()
