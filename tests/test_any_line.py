"""What the document promises of every line, tried on many lines by trying all values."""

import itertools
import random
import unittest

from tests.lines import ask, back, clause, decide, learnt, mark, start


def holds(literals, values):
    return any(values[abs(literal) - 1] == (literal > 0) for literal in literals)


def fitting(n, clauses, assumptions=()):
    """All values under which these clauses hold and these assumptions are so."""
    return [values for values in itertools.product((False, True), repeat=n)
            if all(holds(literals, values) for literals in clauses)
            and all(values[abs(a) - 1] == (a > 0) for a in assumptions)]


def some_literals(rng, n, most):
    return [rng.choice((-1, 1)) * rng.randint(1, n) for _ in range(rng.randint(0, most))]


def some_clause(rng, n):
    chosen = rng.sample(range(1, n + 1), min(n, rng.choice((1, 2, 2, 3, 3, 3, 4))))
    return clause(*[rng.choice((-1, 1)) * variable for variable in chosen])


def some_line(rng):
    n = rng.randint(1, 6)
    calls = [start(n)] + [some_clause(rng, n) for _ in range(rng.randint(0, 3 * n))]
    while len(calls) < 38:
        kind = rng.randint(0, 9)
        if kind < 4:
            calls.append(some_clause(rng, n))
        elif kind < 6:
            calls.append(rng.choice((mark, mark, back))())
        else:
            calls.append(decide(rng.choice((0, 1, 2, 3, 60)), *some_literals(rng, n, 3)))
            calls.append(learnt())
    return n, calls


def apart(told):
    """(number, height, literals) of each clause that learnt tells."""
    clauses = []
    place = 1
    for _ in range(told[0]):
        number, height, size = told[place:place + 3]
        clauses.append((number, height, told[place + 3:place + 3 + size]))
        place += 3 + size
    return clauses


class AnyLine(unittest.TestCase):
    def check_decide(self, n, given, most, assumptions, answer):
        clauses = [literals for height, literals in given]
        if answer[0] == 1:
            self.assertEqual(answer[1], n)
            values = tuple(value == 1 for value in answer[2:])
            self.assertIn(values, fitting(n, clauses, assumptions))
        elif answer[0] == 0:
            at_fault = answer[2:]
            self.assertEqual(answer[1], len(at_fault))
            self.assertEqual(at_fault, [a for a in assumptions if a in at_fault])
            self.assertEqual(fitting(n, clauses, at_fault), [])
        else:
            self.assertEqual(answer, [2])
            self.assertLess(most, 60)

    def check_learnt(self, n, given, before, clauses, most):
        numbers = [number for number, height, literals in clauses]
        self.assertEqual(numbers, sorted(set(numbers)))
        self.assertEqual(clauses[:len(before)], before)
        self.assertLessEqual(len(clauses) - len(before), most)
        for place, (number, height, literals) in enumerate(clauses):
            self.assertEqual(literals, sorted(literals, key=abs))
            under = [told for their_height, told in given if their_height <= height]
            self.assertTrue(all(holds(literals, values) for values in fitting(n, under)))
            earlier = [set(told) for _, told in given] + [set(told) for _, _, told in clauses[:place]]
            self.assertFalse(place >= len(before) and set(literals) in earlier)

    def check_line(self, n, calls):
        given, known, marks, number = [], [], 0, 0
        told = ask(*calls)
        for place, (call, answer) in enumerate(zip(calls, told)):
            if call[0] == 1:
                number += 1
                self.assertEqual(answer, [number])
                given.append((marks, call[2:]))
            elif call[0] == 2 and marks < 8:
                marks += 1
                self.assertEqual(answer, [marks])
            elif call[0] == 3 and marks > 0:
                marks -= 1
                given = [pair for pair in given if pair[0] <= marks]
                known = [triple for triple in known if triple[1] <= marks]
                self.assertEqual(answer, [len(given), len(known)])
            elif call[0] == 4:
                self.check_decide(n, given, call[1], call[3:], answer)
                clauses = apart(told[place + 1])
                self.check_learnt(n, given, known, clauses, call[1])
                number += len(clauses) - len(known)
                known = clauses

    def test_many_lines(self):
        rng = random.Random(90)
        for _ in range(300):
            n, calls = some_line(rng)
            with self.subTest(calls=calls):
                self.check_line(n, calls)
