import unittest

from tests.lines import EIGHT, ask, ask_last, back, clause, decide, forget, learnt, mark, order, shows, start, steps

LEAST = -2147483648
GREATEST = 2147483647
CHAIN = [start(5), clause(-3, 4), clause(-1, 2), clause(-2, 3)]


class Follows(unittest.TestCase):
    def test_no_clause(self):
        self.assertEqual(ask(steps(), steps(1), steps(-1, 2, -3)), [[0], [0], [0]])

    def test_no_literal(self):
        self.assertEqual(ask(clause(1), steps(), clause(-1), steps()), [[1], [0], [2], [1]])
        self.assertEqual(ask(clause(), steps(), steps(2), steps(-1, -2, -3)), [[1], [1], [1], [1]])
        # 1, 2 by 2, and 3 is broken
        self.assertEqual(ask(clause(1), clause(-1, 2), steps(), clause(-2, -1), steps())[2:], [[0], [3], [1]])

    def test_a_clause_that_is_there(self):
        told = ask(clause(1, -2), steps(1, -2), steps(-2, 1), steps(1, -2, 3), steps(1), steps(-2), steps(-1, 2),
                   steps(1, 2))
        self.assertEqual(told[1:], [[1], [1], [1], [0], [0], [0], [0]])

    def test_by_several_steps(self):
        self.assertEqual(ask(*CHAIN, steps(-1, 4), steps(4, -1), steps(-1, 3), steps(-2, 4), steps(-1, 5, 4))[4:],
                         [[1]] * 5)
        self.assertEqual(ask(*CHAIN, steps(-1), steps(4), steps(1, 4), steps(-1, -4), steps(-4, 1), steps(5))[4:],
                         [[0]] * 6)

    def test_with_clauses_of_one_literal(self):
        # with -4: -3 by 1, -2 by 3, -1 by 2, and 4 = (1) is broken
        told = ask(*CHAIN, clause(1), steps(4), steps(2), steps(-4), steps(5), steps(1))
        self.assertEqual(told[5:], [[1], [1], [0], [0], [1]])

    def test_it_follows_but_not_by_steps(self):
        # each of four clauses has two open literals under -1
        self.assertEqual(ask(*EIGHT[:4], steps(1), steps(1, 2), steps(1, -3), steps(1, 2, 3), steps(2))[4:],
                         [[0], [1], [1], [1], [0]])
        self.assertEqual(ask_last(*EIGHT, steps()), [0])

    def test_learnt_ones_count(self):
        # 5 = (1 2), 6 = (1)
        self.assertEqual(ask(*EIGHT[:4], steps(1), decide(60), steps(1), steps(), forget(0), steps(1))[4:],
                         [[0], [1, 3, 1, 1, 1], [1], [0], [2], [0]])
        self.assertEqual(ask(*EIGHT, steps(), decide(60), steps())[8:], [[0], [0, 0], [1]])

    def test_a_literal_told_twice(self):
        self.assertEqual(ask(*CHAIN, steps(-1, 4, -1), steps(4, 4, -1, -1, 4), steps(1, 1), steps(*[-1, 4] * 30))[4:],
                         [[1], [1], [0], [1]])

    def test_marks(self):
        told = ask(clause(1, 2), mark(), clause(1, -2), steps(1), back(), steps(1), steps(1, 2))
        self.assertEqual(told[3:], [[1], [1, 0], [0], [1]])

    def test_no_setting_of_a_search_is_left(self):
        told = ask(clause(-1, -2), clause(-1, 3), decide(0, 1), steps(), steps(3), steps(-1, 3), steps(-2))
        self.assertEqual(told[2:], [[1, 3, 1, 0, 1], [0], [0], [1], [0]])


class Refused(unittest.TestCase):
    def test_no_such_variable(self):
        for literal in (0, 4, -4, 12, LEAST, GREATEST):
            with self.subTest(literal=literal):
                self.assertEqual(ask(steps(literal), steps(1, literal), steps(literal, -2, 3)), [[-2]] * 3)

    def test_the_edge_of_n(self):
        for n in (1, 5, 12):
            self.assertEqual(ask(start(n), steps(n), steps(-n), steps(n + 1), steps(-n - 1)),
                             [[n], [0], [0], [-2], [-2]])

    def test_told_both_ways(self):
        self.assertEqual(ask(steps(1, -1), steps(-3, 3), steps(1, 2, 3, -2), steps(2, 2, -1, -2)), [[-1]] * 4)

    def test_of_several_the_one_told_first(self):
        self.assertEqual(ask(steps(1, -1, 0), steps(4, -4), steps(0, 2, -2), steps(GREATEST, -GREATEST)), [[-2]] * 4)

    def test_it_is_refused_whatever_the_clauses(self):
        self.assertEqual(ask(clause(), steps(1, -1), steps(4), steps()), [[1], [-1], [-2], [1]])

    def test_fifty_given_clauses_are_no_refusal(self):
        # fifty take more than the forty calls of a line: this list is longer than any that is handed in
        self.assertEqual(ask(*[clause(3)] * 50, steps(3), steps(2))[50:], [[1], [0]])


class NothingIsChanged(unittest.TestCase):
    def test_how_variables_were_set_last(self):
        # each of these sets variables, by itself or by what follows
        self.assertEqual(ask(*CHAIN, steps(-1, 4), order(), steps(-1, -2), order(), decide(0))[4:],
                         [[1], [5, -1, -2, -3, -4, -5], [0], [5, -1, -2, -3, -4, -5], [1, 5, 0, 0, 0, 0, 0]])
        self.assertEqual(ask(decide(0, 1, 2, 3), steps(1, 2), order(), decide(0)),
                         [[1, 3, 1, 1, 1], [0], [3, 1, 2, 3], [1, 3, 1, 1, 1]])

    def test_all_is_as_without_it(self):
        before = [start(5), mark(), clause(2), clause(-3, -2), clause(3, 4, 5), mark(), clause(3, 4, -5)]
        after = [order(), learnt(), shows(), clause(-4, -5), decide(60, -1), order(), learnt(), shows(), back(),
                 order(), decide(0), learnt(), shows()]
        for search in ([], [decide(0)], [decide(1, -1)], [decide(60, -1)]):
            plain = ask(*before, *search, *after)
            for call in (steps(), steps(-2), steps(2), steps(4), steps(3, 5), steps(1, -5, 4), steps(-1, -1), steps(0),
                         steps(1, -1), steps(6, -6)):
                with self.subTest(search=search, call=call):
                    told = ask(*before, *search, call, *after)
                    place = len(before) + len(search)
                    self.assertEqual(told[:place] + told[place + 1:], plain)

    def test_nothing_is_learnt_of_a_broken_clause(self):
        self.assertEqual(ask(*EIGHT, steps(1, 2), learnt(), clause(1))[8:], [[1], [0], [9]])
