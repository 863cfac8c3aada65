"""What is asked of two programs that have to answer alike."""

from drivefold.running import run
from drivefold.terms import put, unknowns
from drivefold.termtexts import write_term

STEPS = 150


def check_answers(test, source, found, first_term, second_term, seen):
    """The second program comes to what the first one comes to, in no more steps."""
    first = run(source, first_term, STEPS)
    second = run(found, second_term, STEPS)
    told = (write_term(first_term), write_term(second_term))
    if first[0] != "open" and second[0] == "open":
        # Only the bound of sizes may end a run here.
        test.assertTrue(second[2] <= first[2] and second[2] < STEPS, (told, first, second))
        seen["too large"] = seen.get("too large", 0) + 1
    elif first[0] != "open":
        test.assertEqual(second[:2], first[:2], told)
        test.assertLessEqual(second[2], first[2], told)
        word = "in as many steps" if second[2] == first[2] else "in fewer steps"
        seen[word] = seen.get(word, 0) + 1
        seen[first[0]] = seen.get(first[0], 0) + 1
    elif second[0] != "open":
        # What is not told by the first run is told by a longer one.
        longer = run(source, first_term, 5 * STEPS)
        if longer[0] == "open" and longer[2] < 5 * STEPS:
            seen["too large"] = seen.get("too large", 0) + 1
        else:
            test.assertEqual(longer[:2], second[:2], told)
    else:
        seen["open"] = seen.get("open", 0) + 1


def closed_terms(random, start, made):
    """Terms without unknowns for the unknowns of the start, as parts; a call of made returns one."""
    return tuple([(unknown, made(random)) for unknown in unknowns(start)])


def check_residual(test, random, program, start, found, made, seen):
    """The residual program and its term answer as the program and the start."""
    rest, term = found
    for _ in range(4):
        parts = closed_terms(random, start, made)
        check_answers(test, program, rest, put(start, parts), put(term, parts), seen)
