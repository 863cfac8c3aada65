import re
import unittest
from itertools import product

from drivefold.errors import BadTerm, DriveFoldError
from drivefold.terms import names, size
from drivefold.termtexts import read_term, write_term
from tests.samples import chain, small_terms

HEAD = r"(?:[A-Za-z][A-Za-z0-9]{0,11}|\?(?:0|[1-9][0-9]{0,3}))"


def is_text_of_a_term(text):
    """Section 4 by replacing arguments in parentheses, from the inside, by a head."""
    shorter = re.sub(rf" \({HEAD}(?: {HEAD})+\)", " x", text)
    if shorter != text:
        return is_text_of_a_term(shorter)
    return re.fullmatch(rf"{HEAD}(?: {HEAD})*", text) is not None


EXAMPLES = (
    ("A", ("A", ())),
    ("f", ("f", ())),
    ("?0", (0, ())),
    ("?9999", (9999, ())),
    ("f A", ("f", (("A", ()),))),
    ("add (S ?0) ?1", ("add", (("S", ((0, ()),)), (1, ())))),
    ("?3 A (?4 B)", (3, (("A", ()), (4, (("B", ()),))))),
    ("f (g (h A) B) C", ("f", (("g", (("h", (("A", ()),)), ("B", ()))), ("C", ())))),
    ("f (g A) (g A)", ("f", (("g", (("A", ()),)), ("g", (("A", ()),))))),
    ("a1 ?10 ?101", ("a1", ((10, ()), (101, ())))),
)


class WriteTests(unittest.TestCase):
    def test_examples(self):
        for text, term in EXAMPLES:
            self.assertEqual(write_term(term), text)

    def test_a_hundred_heads(self):
        self.assertEqual(write_term(("f", (("A", ()),) * 99)), "f" + " A" * 99)

    def test_many_levels(self):
        for levels in (100, 200, 5000):
            wanted = "S (" * (levels - 1) + "S A" + ")" * (levels - 1)
            self.assertEqual(write_term(chain("S", levels)), wanted)


class ReadTests(unittest.TestCase):
    def check_bad(self, *texts):
        for text in texts:
            with self.assertRaises(BadTerm, msg=repr(text)):
                read_term(text)

    def test_examples(self):
        for text, term in EXAMPLES:
            self.assertEqual(read_term(text), term)

    def test_names_of_functions_and_of_constructors(self):
        self.assertEqual(names(read_term("add Z (aB1 Cons (Ab2 zZ9))")), ("add", "Z", "aB1", "Cons", "Ab2", "zZ9"))

    def test_the_longest_and_the_shortest_names(self):
        for name in ("a", "Z", "abcdefghijkl", "A23456789012", "a1b2c3d4e5f6"):
            self.assertEqual(read_term(name), (name, ()))
            self.assertEqual(read_term(f"f ({name} {name})"), ("f", ((name, ((name, ()),)),)))

    def test_all_numbers_of_unknowns(self):
        for number in range(10000):
            self.assertEqual(read_term(f"?{number}"), (number, ()))

    def test_any_size(self):
        text = "f" + " A" * 999
        self.assertEqual(read_term(text), ("f", (("A", ()),) * 999))
        self.assertEqual(size(read_term("f" + " (g A)" * 333)), 667)

    def test_many_levels(self):
        for levels in (100, 200, 201, 5000):
            text = "S (" * levels + "S A" + ")" * levels
            self.assertEqual(write_term(read_term(text)), text)
            self.assertEqual(size(read_term(text)), levels + 2)

    def test_the_error_is_one_of_the_program_and_a_value_error(self):
        for error in (DriveFoldError, ValueError):
            with self.assertRaises(error):
                read_term("")

    def test_nothing_but_blanks(self):
        self.check_bad("", " ", "  ")

    def test_a_blank_too_many(self):
        self.check_bad(" A", "A ", "f  A", "f A ", " f A", "f ( g A)", "f (g A )", "f (g  A)", "f  (g A)",
                       "f (g A)  B", "f (g A) ", "? 0", "f ? 0")

    def test_a_blank_too_few(self):
        self.check_bad("f(g A)", "f (g A)B", "f (g A)(g B)", "?0?1", "f ?0?1", "f?0", "?0A", "?0(g A)")

    def test_needless_parentheses(self):
        self.check_bad("(A)", "(f A)", "(f) A", "f (A)", "f (?0)", "f ((g A))", "(f A) B", "f ((g A) B)", "((f A))")

    def test_missing_parentheses(self):
        self.check_bad("(", ")", "()", "f (g A", "f g A)", "f (g (h A)", "f (g A))", "f )g A(", "f ()", "f ( )",
                       "f (g A) (", "f A ()")

    def test_wrong_numbers(self):
        self.check_bad("?", "f ?", "?01", "?00", "?10000", "?00000", "?012", "f ?01", "0", "1", "12", "f 1", "? A",
                       "??0", "?-1", "?+1", "?1_0", "?x", "?1x", "?0x1", "-1", "?99999999999999999999")

    def test_wrong_names(self):
        self.check_bad("abcdefghijklm", "f abcdefghijklm", "A234567890123", "1a", "f 1a", "9", "a_b", "_a", "a-b",
                       "f A?0", "a.b", "f 'A'", "a'", "*", "f * A")

    def test_characters_that_do_not_belong_there(self):
        self.check_bad("\n", "A\n", "\nA", "f\nA", "f A\n", "f\tA", "f\rA", "f\x0bA", "f\u00a0A", "f,A", "f [g A]",
                       "\u00e4", "a\u00e4", "f\u2003A", "?\u0660", "?1\u00b2", "\u00b2", "a\u0660", "\uff21", "%", "f %")

    def test_each_other_character_anywhere(self):
        for number in range(300):
            character = chr(number)
            for text in (f"{character}f A", f"f{character}A", f"f A{character}", f"f (g{character} A)",
                         f"f ?1{character}", f"?{character}"):
                self.assertEqual(self.is_read(text), is_text_of_a_term(text), repr(text))

    def test_all_short_texts(self):
        for length in range(7):
            for characters in product("?0f ()", repeat=length):
                text = "".join(characters)
                self.assertEqual(self.is_read(text), is_text_of_a_term(text), repr(text))

    def is_read(self, text):
        try:
            term = read_term(text)
        except BadTerm:
            return False
        self.assertEqual(write_term(term), text)
        return True


class BothWaysTests(unittest.TestCase):
    def test_reading_undoes_writing(self):
        for term in small_terms((0, 17, "f", "Cons"), 4):
            self.assertEqual(read_term(write_term(term)), term)

    def test_writing_undoes_reading(self):
        for text in ("A", "?0", "add (add ?0 ?1) ?2", "?9999 (?0 (?1 A) B) (C D)", "f (?1 (g (h ?2)))"):
            self.assertEqual(write_term(read_term(text)), text)

    def test_what_was_passed_stays_as_it_was(self):
        term = ("f", (("g", ((0, ()),)), (1, ())))
        write_term(term)
        self.assertEqual(term, ("f", (("g", ((0, ()),)), (1, ()))))


if __name__ == "__main__":
    unittest.main()
