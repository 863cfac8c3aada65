"""Programs for the tests, and random ones, the same on every run."""

from drivefold.programtexts import read_program
from drivefold.termtexts import read_term

ADD = read_program("add Z ?0 = ?0\nadd (S ?0) ?1 = S (add ?0 ?1)\n")
REV = read_program("rev Nil ?0 = ?0\nrev (Cons ?0 ?1) ?2 = rev ?1 (Cons ?0 ?2)\n")
MIXED = read_program(
    "id ?0 = ?0\n"
    "k ?0 ?1 = ?0\n"
    "one = S Z\n"
    "twice ?0 ?1 = ?0 (?0 ?1)\n"
    "grow ?0 = grow (S ?0)\n"
    "loop = loop\n"
    "not True = False\n"
    "not False = True\n"
    "map Nil ?0 = Nil\n"
    "map (Cons ?0 ?1) ?2 = Cons (?2 ?0) (map ?1 ?2)\n"
    "add Z = id\n"
    "add (S ?0) = succ ?0\n"
    "succ ?0 ?1 = S (add ?0 ?1)\n"
    "six (C ?0 ?1 ?2 ?3 ?4 ?5) ?6 = D ?5 ?4 ?3 ?2 ?1 ?0 ?6\n")

CONSTRUCTORS = (("A", 0), ("B", 1), ("C", 2))


def terms(*texts):
    return tuple([read_term(text) for text in texts])


def random_term(random, size, leaves, heads):
    """A term of this size; leaves and heads are heads for terms without and with arguments."""
    if size == 1:
        return (random.choice(leaves), ())
    arguments = []
    left = size - 1
    while left:
        part = left if len(arguments) == 2 else random.randint(1, left)
        arguments.append(random_term(random, part, leaves, heads))
        left -= part
    return (random.choice(heads), tuple(arguments))


def random_body(random, known, functions):
    leaves = [*range(known), *range(known), "A", "A", random.choice(functions)]
    heads = [*functions, *functions, "B", "C", *range(known)]
    return random_term(random, random.randint(1, 7), leaves, heads)


def random_program(random):
    """A program of the functions f, g and h over the constructors A, B and C."""
    functions = ["f", "g", "h"]
    program = []
    for name in functions:
        parameters = random.randint(0, 2)
        if parameters == 0 or random.random() < 0.3:
            program.append(("plain", name, parameters, random_body(random, parameters, functions)))
            continue
        chosen = random.sample(CONSTRUCTORS, random.randint(1, 3))
        rules = [(constructor, count, random_body(random, count + parameters - 1, functions))
                 for constructor, count in chosen]
        program.append(("cases", name, parameters, tuple(rules)))
    return tuple(program)


def random_start(random, size, unknowns):
    leaves = [*unknowns, *unknowns, "A", "f", "g"] if unknowns else ["A", "A", "f", "h"]
    return random_term(random, size, leaves, ["f", "f", "g", "h", "B", "C", *unknowns[:1]])


def rename(term, source, names):
    """The term with functions of a program in the places of f, g and h."""
    head = source.choice(names) if term[0] in ("f", "g", "h") else term[0]
    return (head, tuple([rename(argument, source, names) for argument in term[1]]))
