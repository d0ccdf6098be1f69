import unittest

from tests.lines import EIGHT, ask, ask_last, back, clause, decide, learnt, mark, start

LEAST = -2147483648
GREATEST = 2147483647


class Given(unittest.TestCase):
    def test_numbers_from_one_on(self):
        self.assertEqual(ask(clause(1), clause(1), clause(-2, 3)), [[1], [2], [3]])

    def test_a_literal_told_twice_is_in_it_once(self):
        # were 2 in it twice, two would be neither so nor not so, and it would not set 2 by itself
        self.assertEqual(ask(clause(2, 2), decide(0, -2)), [[1], [0, 1, -2]])
        # taken apart, it comes to what (2 3) comes to
        told = ask(clause(3, 2, 3, 2), clause(2, -3, -3), decide(60), learnt())
        self.assertEqual(told, [[1], [2], [1, 3, 0, 1, 1], [1, 3, 0, 1, 2]])

    def test_literals_lie_by_their_variables(self):
        # under 3, -1: 2 by 1, and 2 is broken; -2 goes out, (1 -3) is learnt however it was told
        for first, second in (((1, 2, -3), (1, -2, -3)), ((-3, 2, 1), (-2, -3, 1)), ((2, -3, 1), (-3, 1, -2))):
            with self.subTest(first=first):
                self.assertEqual(ask_last(clause(*first), clause(*second), decide(60, 3), learnt()),
                                 [1, 3, 0, 2, 1, -3])

    def test_the_empty_clause(self):
        self.assertEqual(ask(clause(), decide(0), decide(60, 1, -1), learnt()), [[1], [0, 0], [0, 0], [0]])
        self.assertEqual(ask(mark(), clause(), back(), decide(0)), [[1], [1], [0, 0], [1, 3, 0, 0, 0]])

    def test_a_clause_of_all_variables(self):
        self.assertEqual(ask_last(start(12), clause(*range(12, 0, -1)), decide(0)), [1, 12] + [0] * 11 + [1])


class Refused(unittest.TestCase):
    def test_no_such_variable(self):
        for literal in (0, 4, -4, 12, LEAST, GREATEST):
            with self.subTest(literal=literal):
                self.assertEqual(ask(clause(literal)), [[-2]])
                self.assertEqual(ask(clause(1, -2, literal)), [[-2]])
                self.assertEqual(ask(clause(literal, 3)), [[-2]])

    def test_the_edge_of_n(self):
        for n in (1, 5, 12):
            self.assertEqual(ask(start(n), clause(n, n), clause(-n), clause(n + 1), clause(-n - 1)),
                             [[n], [1], [2], [-2], [-2]])

    def test_told_both_ways(self):
        for literals in ((1, -1), (-3, 3), (1, 2, 3, -2), (2, 2, -1, -2)):
            with self.subTest(literals=literals):
                self.assertEqual(ask(clause(*literals)), [[-1]])

    def test_fifty_given_ones(self):
        self.assertEqual(ask_many(50), [[50], [-5], [-5]])

    def test_learnt_ones_do_not_count(self):
        self.assertEqual(ask_many(50, EIGHT + [decide(60)]), [[53], [-5], [-5]])

    def test_what_went_does_not_count(self):
        told = ask(mark(), *[clause(1)] * 50, clause(1), back(), clause(2))
        self.assertEqual(told[-3:], [[-5], [0, 0], [51]])

    def test_of_several_the_one_told_first(self):
        self.assertEqual(ask(clause(1, -1, 0)), [[-2]])
        self.assertEqual(ask(clause(4, -4)), [[-2]])
        self.assertEqual(ask(clause(GREATEST, -GREATEST)), [[-2]])
        full = [clause(1)] * 50
        self.assertEqual(ask(*full, clause(1, -1), clause(0), clause(2, -2, 9), clause())[-4:],
                         [[-1], [-2], [-2], [-5]])

    def test_it_leaves_all_as_it_was(self):
        before = [mark(), clause(2, 3), clause(2, -3), decide(60, 1)]
        after = [learnt(), clause(1), decide(0), back(), learnt(), clause(-3)]
        plain = ask(*before, *after)
        for call in (clause(0), clause(1, 4), clause(LEAST), clause(1, -1), clause(2, 3, -3)):
            refused = ask(*before, call, *after)
            self.assertEqual(refused[:4] + refused[5:], plain)


# Fifty given clauses take more than the forty calls of a line: these lists are longer than any that is handed in.
def ask_many(given, ahead=()):
    """What the last of so many given clauses is answered, and two that are too many."""
    left = given - len([call for call in ahead if call[0] == 1])
    return ask(*ahead, *[clause(3)] * left, clause(3), clause())[-3:]
