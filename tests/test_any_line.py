"""What the document promises of every line, tried on many lines by trying all values."""

import itertools
import random
import unittest

from tests.lines import ask, back, came, clause, decide, forget, learnt, mark, start, steps


def holds(literals, values):
    return any(values[abs(literal) - 1] == (literal > 0) for literal in literals)


def fitting(n, clauses, assumptions=()):
    """All values under which these clauses hold and these assumptions are so."""
    return [values for values in itertools.product((False, True), repeat=n)
            if all(holds(literals, values) for literals in clauses)
            and all(values[abs(a) - 1] == (a > 0) for a in assumptions)]


def some_literals(rng, n, most):
    return [rng.choice((-1, 1)) * rng.randint(1, n) for _ in range(rng.randint(0, most))]


def some_clause(rng, n):
    chosen = rng.sample(range(1, n + 1), min(n, rng.choice((1, 2, 2, 3, 3, 3, 3, 3, 3, 3, 4))))
    return clause(*[rng.choice((-1, 1)) * variable for variable in chosen])


def some_line(rng):
    n = rng.choice((1, 2, 3, 4, 5, 6, 6, 6))
    calls = [start(n)] + [some_clause(rng, n) for _ in range(rng.randint(0, 4 * n))]
    while len(calls) < 38:
        kind = rng.randint(0, 11)
        if kind < 3:
            calls.append(some_clause(rng, n))
        elif kind < 5:
            calls.append(rng.choice((mark, mark, back))())
        elif kind < 6:
            calls.append(forget(rng.randint(0, 3)))
        elif kind < 7:
            calls.append(steps(*{abs(a): a for a in some_literals(rng, n, 3)}.values()))
        elif kind < 8:
            given = len([call for call in calls if call[0] == 1])
            calls.append(came(rng.randint(given, given + 3)))
        else:
            calls.append(decide(rng.choice((0, 1, 2, 3, 60)), *some_literals(rng, n, 3)))
            calls.append(learnt())
    return n, calls


def apart(told):
    """(number, height, literals) of each clause that learnt tells."""
    clauses = []
    place = 1
    for _ in range(told[0]):
        number, height, size = told[place:place + 3]
        clauses.append((number, height, told[place + 3:place + 3 + size]))
        place += 3 + size
    return clauses


class AnyLine(unittest.TestCase):
    def check_decide(self, n, given, most, assumptions, answer):
        clauses = [literals for height, literals in given]
        if answer[0] == 1:
            self.assertEqual(answer[1], n)
            values = tuple(value == 1 for value in answer[2:])
            self.assertIn(values, fitting(n, clauses, assumptions))
        elif answer[0] == 0:
            at_fault = answer[2:]
            self.assertEqual(answer[1], len(at_fault))
            self.assertEqual(at_fault, [a for a in assumptions if a in at_fault])
            self.assertEqual(fitting(n, clauses, at_fault), [])
        else:
            self.assertEqual(answer, [2])
            self.assertLess(most, 60)

    def check_learnt(self, n, given, before, clauses, most):
        numbers = [number for number, height, literals in clauses]
        self.assertEqual(numbers, sorted(set(numbers)))
        self.assertEqual(clauses[:len(before)], before)
        self.assertLessEqual(len(clauses) - len(before), most)
        for place, (number, height, literals) in enumerate(clauses):
            self.assertEqual(literals, sorted(literals, key=abs))
            under = [told for their_height, told in given if their_height <= height]
            self.assertTrue(all(holds(literals, values) for values in fitting(n, under)))
            earlier = [set(told) for _, told in given] + [set(told) for _, _, told in clauses[:place]]
            self.assertFalse(place >= len(before) and set(literals) in earlier)

    def check_steps(self, n, clauses, literals, answer):
        self.assertIn(answer, ([0], [1]))
        if answer == [1]:
            self.assertTrue(all(holds(literals, values) for values in fitting(n, clauses)))
        if any(set(told) <= set(literals) for told in clauses):
            self.assertEqual(answer, [1])

    def check_came(self, n, ever, known, k, answer):
        """What a clause came of came ahead of it, and the clause follows from it; its height is the greatest there."""
        if k not in [number for number, height, literals in known]:
            self.assertEqual(answer, [-3])
            return
        height, literals = ever[k]
        self.assertEqual(answer[0], len(answer) - 1)
        self.assertEqual(len(set(answer[1:])), answer[0])
        self.assertTrue(all(number < k for number in answer[1:]))
        behind = [ever[number] for number in answer[1:]]
        self.assertTrue(all(holds(literals, values) for values in fitting(n, [told for _, told in behind])))
        self.assertEqual(max(its_height for its_height, _ in behind), height)

    def check_line(self, n, calls):
        given, known, marks, number = [], [], 0, 0
        ever = {}
        told = ask(*calls)
        for place, (call, answer) in enumerate(zip(calls, told)):
            if call[0] == 1:
                number += 1
                self.assertEqual(answer, [number])
                given.append((marks, call[2:]))
                ever[number] = (marks, call[2:])
            elif call[0] == 2 and marks < 8:
                marks += 1
                self.assertEqual(answer, [marks])
            elif call[0] == 3 and marks > 0:
                marks -= 1
                given = [pair for pair in given if pair[0] <= marks]
                known = [triple for triple in known if triple[1] <= marks]
                self.assertEqual(answer, [len(given), len(known)])
            elif call[0] == 4:
                self.check_decide(n, given, call[1], call[3:], answer)
                clauses = apart(told[place + 1])
                self.check_learnt(n, given, known, clauses, call[1])
                number += len(clauses) - len(known)
                known = clauses
                ever.update({k: (height, literals) for k, height, literals in clauses})
            elif call[0] == 6:
                self.check_came(n, ever, known, call[1], answer)
            elif call[0] == 7:
                left = [triple for triple in known if len(triple[2]) <= call[1]]
                self.assertEqual(answer, [len(known) - len(left)])
                known = left
            elif call[0] == 8:
                standing = [literals for _, literals in given] + [literals for _, _, literals in known]
                self.check_steps(n, standing, call[2:], answer)

    def test_many_lines(self):
        rng = random.Random(90)
        for _ in range(500):
            n, calls = some_line(rng)
            with self.subTest(calls=calls):
                self.check_line(n, calls)
