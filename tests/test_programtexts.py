import random
import unittest

from drivefold.errors import BadProgram, BadTerm, DriveFoldError
from drivefold.programtexts import read_program, write_program
from drivefold.termtexts import read_term, write_term
from tests.programs import ADD, MIXED, random_program
from tests.readings import heads, plain_size

ADD_TEXT = "add Z ?0 = ?0\nadd (S ?0) ?1 = S (add ?0 ?1)\n"
RIGHT = "id ?0 = ?0\n"


def numbered(first, behind):
    """The texts of unknowns without arguments, each with a space in front."""
    return "".join([f" ?{number}" for number in range(first, behind)])


def plain_line(line):
    """A line by itself: the name, the parameters, the constructor, the count and the body, or None.

    It is read loosely, and then it must be what such a function is written as.
    """
    if line.count(" = ") != 1:
        return None
    left, right = line.split(" = ")
    try:
        name, arguments = read_term(left)
        body = read_term(right)
    except BadTerm:
        return None
    if isinstance(name, int) or not "a" <= name[0] <= "z" or len(arguments) > 100:
        return None
    row = (name, len(arguments), None, 0, body)
    if arguments and isinstance(arguments[0][0], str):
        row = (name, len(arguments), arguments[0][0], len(arguments[0][1]), body)
    _, parameters, constructor, count, _ = row
    if constructor is None:
        known = parameters
        wanted = f"{name}{numbered(0, parameters)} = {write_term(body)}"
    else:
        if not "A" <= constructor[0] <= "Z" or count > 6:
            return None
        known = count + parameters - 1
        first = f" ({constructor}{numbered(0, count)})" if count else f" {constructor}"
        wanted = f"{name}{first}{numbered(count, known)} = {write_term(body)}"
    others = [head for head in heads(body) if isinstance(head, int) and head >= known]
    return None if line != wanted or others or plain_size(body) > 120 else row


def plain_read(text):
    """Section 11: the program, or the number of the line."""
    *lines, rest = text.split("\n")
    rows = []
    for number, line in enumerate(lines, start=1):
        row = plain_line(line)
        if row is None:
            return number
        before = [other for other in rows if other[0] == row[0]]
        together = rows[len(rows) - len(before):] == before
        further = (together and row[2] is not None and all(
            [other[2] not in (None, row[2]) and other[1] == row[1] for other in before]))
        if before and not further:
            return number
        rows.append(row)
    if rest:
        return len(lines) + 1
    defined = [row[0] for row in rows]
    for number, row in enumerate(rows, start=1):
        if [head for head in heads(row[4]) if isinstance(head, str) and head[0] >= "a" and head not in defined]:
            return number
    program = {}
    for name, parameters, constructor, count, body in rows:
        if constructor is None:
            program[name] = ("plain", name, parameters, body)
        else:
            rules = program[name][3] if name in program else ()
            program[name] = ("cases", name, parameters, rules + ((constructor, count, body),))
    return tuple(program.values())


class BothWays(unittest.TestCase):
    def check(self, text, *functions):
        self.assertEqual(read_program(text), functions)
        self.assertEqual(write_program(functions), text)

    def check_wrong(self, line, *texts):
        for text in texts:
            with self.assertRaises(BadProgram, msg=repr(text)) as caught:
                read_program(text)
            self.assertEqual(caught.exception.line, line, repr(text))


class WriteAndReadTests(BothWays):
    def test_the_example_of_the_document(self):
        self.check(ADD_TEXT, ("cases", "add", 2, (
            ("Z", 0, (0, ())),
            ("S", 1, ("S", (("add", ((0, ()), (1, ()))),))))))

    def test_the_empty_text(self):
        self.check("")

    def test_plain_functions(self):
        self.check("f = A\n", ("plain", "f", 0, ("A", ())))
        self.check("f ?0 ?1 = ?1 (f ?0)\n", ("plain", "f", 2, (1, (("f", ((0, ()),)),))))
        self.check("f = g\ng = f\n", ("plain", "f", 0, ("g", ())), ("plain", "g", 0, ("f", ())))

    def test_rules(self):
        self.check("f A = f\n", ("cases", "f", 1, (("A", 0, ("f", ())),)))
        self.check("f (B ?0 ?1) ?2 ?3 = ?3 ?0\n", ("cases", "f", 3, (("B", 2, (3, ((0, ()),))),)))
        self.check("f B ?0 = ?0\nf A ?0 = A\nf (C ?0) ?1 = ?1\n", ("cases", "f", 2, (
            ("B", 0, (0, ())), ("A", 0, ("A", ())), ("C", 1, (1, ())))))

    def test_constructors_with_any_number_of_arguments_in_bodies(self):
        self.check("f A = A A A A A A A A A (B A)\n", ("cases", "f", 1, (
            ("A", 0, ("A", (("A", ()),) * 8 + (("B", (("A", ()),)),))),)))

    def test_functions_that_are_defined_later(self):
        self.check("f = g A\ng A = h\nh ?0 = f ?0 ?0\n",
                   ("plain", "f", 0, ("g", (("A", ()),))),
                   ("cases", "g", 1, (("A", 0, ("h", ())),)),
                   ("plain", "h", 1, ("f", ((0, ()), (0, ())))))

    def test_constructors_with_no_arguments_and_with_six(self):
        self.check("f C = A\n", ("cases", "f", 1, (("C", 0, ("A", ())),)))
        self.check("f (C ?0 ?1 ?2 ?3 ?4 ?5) ?6 = ?6 ?5\n", ("cases", "f", 2, (("C", 6, (6, ((5, ()),))),)))
        self.check_wrong(1, "f (C ?0 ?1 ?2 ?3 ?4 ?5 ?6) = ?5\n", "f (C ?0 ?1 ?2 ?3 ?4 ?5 ?6) ?7 = A\n")

    def test_functions_with_no_parameters_and_with_a_hundred(self):
        self.check("f = A\n", ("plain", "f", 0, ("A", ())))
        self.check(f"f{numbered(0, 100)} = ?99\n", ("plain", "f", 100, (99, ())))
        self.check(f"f A{numbered(0, 99)} = ?98\n", ("cases", "f", 100, (("A", 0, (98, ())),)))
        self.check(f"f (C{numbered(0, 6)}){numbered(6, 105)} = ?104\n", ("cases", "f", 100, (("C", 6, (104, ())),)))
        self.check_wrong(1, f"f{numbered(0, 101)} = A\n", f"f A{numbered(0, 100)} = A\n",
                         f"f (C{numbered(0, 6)}){numbered(6, 106)} = A\n")

    def test_bodies_of_the_sizes_120_and_121(self):
        self.check(f"f = B{' A' * 119}\n", ("plain", "f", 0, ("B", (("A", ()),) * 119)))
        self.check_wrong(1, f"f = B{' A' * 120}\n")
        deep = "S (" * 118 + "S A" + ")" * 118
        self.assertEqual(write_program(read_program(f"f C = {deep}\n")), f"f C = {deep}\n")
        self.check_wrong(2, f"f C = {deep}\nf D = S ({deep})\n")

    def test_the_longest_names(self):
        self.check("abcdefghijkl A23456789012 = A\n", ("cases", "abcdefghijkl", 1, (("A23456789012", 0, ("A", ())),)))
        self.check_wrong(1, "abcdefghijklm = A\n", "f A234567890123 = A\n", "f = A234567890123\n")

    def test_two_hundred_lines(self):
        text = "".join([f"f{number} ?0 = f{199 - number} (A ?0)\n" for number in range(200)])
        self.assertEqual(len(read_program(text)), 200)
        self.assertEqual(write_program(read_program(text)), text)
        text = "".join([f"f A{number} = A{199 - number}\n" for number in range(200)])
        self.assertEqual(len(read_program(text)[0][3]), 200)
        self.assertEqual(write_program(read_program(text)), text)
        self.check_wrong(200, text.replace("A199 =", "A7 ="))

    def test_what_was_passed_stays_as_it_was(self):
        write_program(ADD)
        self.assertEqual(ADD, read_program(ADD_TEXT))

    def test_random_programs(self):
        source = random.Random(10)
        for _ in range(500):
            program = random_program(source)
            self.assertEqual(read_program(write_program(program)), program)
        self.assertEqual(read_program(write_program(MIXED)), MIXED)


class WrongLineTests(BothWays):
    def check_line(self, *lines):
        """Each line is wrong by itself."""
        for line in lines:
            self.assertIsNone(plain_line(line), line)
            self.check_wrong(1, f"{line}\n", f"{line}\n{RIGHT}", f"{line}\n{line}\n", f"{line}\nx = y\n", f"{line}\nrest")
            self.check_wrong(2, f"{RIGHT}{line}\n", f"x = nowhere\n{line}\n", f"{RIGHT}{line}\nrest")
            self.check_wrong(3, f"{RIGHT}x = id\n{line}\n{line}\n")

    def test_the_error_is_one_of_the_program(self):
        with self.assertRaises(DriveFoldError):
            read_program("\n")

    def test_empty_lines_and_missing_sides(self):
        self.check_line("", " ", "=", " = ", "f", "f =", "f = ", " = A", "= A", "f A", "id ?0")

    def test_blanks_and_signs(self):
        self.check_line(" f = A", "f = A ", "f  = A", "f =  A", "f=A", "f= A", "f =A", "f == A", "f = = A", "f = A = A",
                        "f : A", "f  ?0 = A", "f ?0 = B  ?0", "f\t= A", "f = A\r", "f : = A", "f = A #", "(f) = A",
                        "f ?0 = (?0)", "f ?0 = (A ?0)", "(f ?0) = A", "f (A) = A", "f (?0) = A")

    def test_heads_that_are_no_functions(self):
        self.check_line("F = A", "F ?0 = ?0", "?0 = A", "?0 ?1 = A", "Cons A = A", "9 = A", "f_ = A")

    def test_parameters_that_are_not_the_unknowns_in_order(self):
        self.check_line("f ?1 = A", "f ?0 ?0 = A", "f ?1 ?0 = A", "f ?0 ?2 = A", "f ?0 ?1 ?3 = A", "f ?00 = A",
                        "f (?0 ?1) = A", "f (?0 A) = A", "f ?0 (?1 ?2) = A", "f ?0 A = A", "f ?0 (A ?1) = A",
                        "f ?0 g = A")

    def test_first_arguments_that_are_no_constructors(self):
        self.check_line("f g = A", "f (g ?0) = A", "f f = A", "f (f ?0) ?1 = A")

    def test_rules_whose_unknowns_are_not_in_order(self):
        self.check_line("f (A ?1) = A", "f (A ?0) ?0 = A", "f (A ?0) ?2 = A", "f A ?1 = A", "f (A ?1) ?0 = A",
                        "f (A ?0 ?0) = A", "f (A B) = A", "f (A (B ?0)) = A", "f (A (?0 ?1)) = A", "f A B = A",
                        "f (A ?0) B = A", "f (A ?0) (?1 ?2) = A", "f (A ?0 ?2) ?1 = A", "f A (B ?0) = A")

    def test_bodies_with_other_unknowns(self):
        self.check_line("f = ?0", "f ?0 = ?1", "f ?0 = A ?0 (B ?9999)", "f ?0 = ?1 ?0", "f A = ?0", "f (A ?0) = ?1",
                        "f (A ?0) ?1 = ?2", "f A ?0 = ?1 ?0")

    def test_bodies_that_are_no_terms(self):
        self.check_line("f = (", "f = A)", "f = a_b", "f = ?", "f = ?10000", "f = A (B)", "f = 7", "f = A,", "f = *")

    def test_a_function_that_is_told_again(self):
        self.check_wrong(2, "f = A\nf = A\n", "f = A\nf = B\n", "f ?0 = A\nf ?0 ?1 = A\n", "f ?0 = A\nf A = A\n",
                         "f A = A\nf ?0 = A\n", "f A = A\nf = A\n", "f = A\nf A = A\n", "f A ?0 = A\nf ?0 ?1 = A\n")
        self.check_wrong(3, "f A = A\ng = A\nf B = A\n", "f = A\ng = A\nf = A\n", "f A = A\ng A = A\nf A = A\n")
        self.check_wrong(4, "f A = A\nf B = A\ng A = A\nf C = A\n", "g = A\nf A = A\nh = A\nf B = A\n")

    def test_further_rules_with_other_parameters(self):
        self.check_wrong(2, "f A = A\nf B ?0 = A\n", "f A ?0 = A\nf B = A\n", "f (A ?0) = A\nf B ?0 = A\n")
        self.check_wrong(3, "f A = A\nf B = A\nf C ?0 ?1 = A\n")

    def test_further_rules_with_a_constructor_that_was(self):
        self.check_wrong(2, "f A = A\nf A = A\n", "f A = A\nf A = B\n", "f A = A\nf (A ?0) = A\n",
                         "f (A ?0) = A\nf A = A\n", "f (A ?0 ?1) ?2 = A\nf (A ?0) ?1 = A\n")
        self.check_wrong(3, "f A = A\nf B = A\nf A = A\n", "f A = A\nf B = A\nf B = A\n")

    def test_what_stands_behind_the_last_newline(self):
        self.check_wrong(1, "f = A", " ", "x", "id ?0 = ?0", "f = nowhere")
        self.check_wrong(2, "f = A\ng = A", "f = A\n ", "f = nowhere\ng = A", "f A = A\nf B = A", "f = A\nwrong")
        self.check_wrong(3, f"{ADD_TEXT}x", f"{ADD_TEXT}f = A", "f = nowhere\ng = nowhere\nx")
        self.check_wrong(2, f"{RIGHT}wrong\nx")

    def test_functions_that_are_not_defined(self):
        self.check_wrong(1, "f = g\n", "f ?0 = A (B (g ?0))\n", "f A = g\nf B = A\n", "f = g\nh = i\n")
        self.check_wrong(2, "f = g\ng = h\n", "f = A\ng = h f\n", "f A = A\nf B = g\n", "f = g\ng = h\ni = j\n", "f = f\ng = f h g i\n")
        self.check_wrong(3, "f = g\ng = f\nh A = F (g h (g i))\n", f"{ADD_TEXT}f = sub\n")

    def test_wrong_lines_are_told_before_functions_that_are_not_defined(self):
        self.check_wrong(2, "f = nowhere\nwrong\n", "f = nowhere\nf = A\n", "f A = nowhere\nf A = A\n")
        self.check_wrong(3, "f = nowhere\ng = A\nh = ?0\n")

    def test_a_line_that_would_define_a_function_but_is_wrong(self):
        self.check_wrong(2, "f = g\ng = ?0\n")

    def test_any_texts_of_lines(self):
        source = random.Random(11)
        pool = ["f = A", "f ?0 = ?0", "f ?0 = ?1", "f A = g", "f B = A", "f (C ?0) = ?0", "f A ?0 = A", "g = f", "g A = A",
                "g (A ?0) = ?0", "g B = h", "h ?0 = g", "h A ?0 = ?0", "h B ?0 = f", "h (C ?0 ?1) ?2 = ?2 ?0", "f g = A",
                "wrong", "", "f =", "f = i", "h = A B"]
        seen = {}
        for _ in range(20000):
            lines = [source.choice(pool[:16] if source.random() < 0.97 else pool) for _ in range(source.randint(0, 5))]
            text = "".join([f"{line}\n" for line in lines]) + ("f = A" if source.random() < 0.03 else "")
            wanted = plain_read(text)
            seen[wanted if isinstance(wanted, int) else "read"] = True
            self.assertEqual(self.read(text), wanted, repr(text))
        self.assertLessEqual({1, 2, 3, 4, 5, "read"}, set(seen))

    def test_texts_that_differ_in_one_place(self):
        source = random.Random(12)
        for _ in range(6000):
            text = write_program(random_program(source))
            at = source.randrange(len(text))
            text = text[:at] + source.choice(["", " ", "\n", "?", "0", "1", "(", ")", "=", "f", "A"]) + text[at + 1:]
            self.assertEqual(self.read(text), plain_read(text), repr(text))

    def read(self, text):
        try:
            program = read_program(text)
        except BadProgram as error:
            return error.line
        self.assertEqual(write_program(program), text)
        return program


if __name__ == "__main__":
    unittest.main()
