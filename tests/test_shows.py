import unittest

from tests.lines import EIGHT, ask, ask_last, back, clause, decide, forget, learnt, mark, shows, start


class Shows(unittest.TestCase):
    def test_no_clause_and_no_mark(self):
        self.assertEqual(ask(shows(), start(12), shows()), [[0, 0], [12], [0, 0]])

    def test_literals_by_their_variables_each_once(self):
        self.assertEqual(ask(clause(3, -1, 3, -2, -1), shows()), [[1], [0, 1, 1, 0, 3, -1, -2, 3]])
        self.assertEqual(ask(start(12), clause(12, -10, 2, -11, 12), shows())[2], [0, 1, 1, 0, 4, 2, -10, -11, 12])

    def test_the_same_clause_again_is_another(self):
        self.assertEqual(ask_last(clause(1), clause(1), shows()), [0, 2, 1, 0, 1, 1, 2, 0, 1, 1])

    def test_a_clause_of_no_literal(self):
        self.assertEqual(ask_last(clause(), clause(-3), shows()), [0, 2, 1, 0, 0, 2, 0, 1, -3])

    def test_marks(self):
        self.assertEqual(ask(mark(), shows(), mark(), shows(), back(), shows()),
                         [[1], [1, 0], [2], [2, 0], [0, 0], [1, 0]])
        self.assertEqual(ask(*[mark()] * 8, shows(), mark(), shows())[8:], [[8, 0], [-5], [8, 0]])

    def test_heights_behind_mark_and_back(self):
        told = ask(clause(1), mark(), shows(), clause(2), clause(3), mark(), mark(), clause(-3), shows(),
                   back(), shows(), back(), shows(), clause(-1, 2), shows(), back(), shows(), back(), shows())
        one = [1, 0, 1, 1]
        two = [*one, 2, 1, 1, 2, 3, 1, 1, 3]
        self.assertEqual(told[2], [1, 1, *one])
        self.assertEqual(told[8:], [
            [3, 4, *two, 4, 3, 1, -3], [3, 0], [2, 3, *two], [3, 0], [1, 3, *two], [5],
            [1, 4, *two, 5, 1, 2, -1, 2], [1, 0], [0, 1, *one], [-7], [0, 1, *one]])

    def test_learnt_ones_are_not_told(self):
        told = ask(*EIGHT, shows(), decide(60), shows(), clause(2), shows())
        self.assertEqual(told[8][:2], [0, 8])
        self.assertEqual(told[10], told[8])
        self.assertEqual(told[12], [0, 9, *told[8][2:], 12, 0, 1, 2])

    def test_behind_forget(self):
        told = ask(mark(), clause(1, 2), clause(1, -2), decide(60), mark(), forget(0), shows(), back(), shows())
        self.assertEqual(told[5:], [[1], [2, 2, 1, 1, 2, 1, 2, 2, 1, 2, 1, -2], [2, 0],
                                    [1, 2, 1, 1, 2, 1, 2, 2, 1, 2, 1, -2]])

    def test_behind_start(self):
        self.assertEqual(ask(mark(), clause(1), start(2), shows(), clause(2), shows())[3:],
                         [[0, 0], [1], [0, 1, 1, 0, 1, 2]])

    def test_refused_clauses_are_not_there(self):
        self.assertEqual(ask(clause(1), clause(1, -1), clause(4), clause(0, 1), shows(), clause(2), shows())[1:],
                         [[-1], [-2], [-2], [0, 1, 1, 0, 1, 1], [2], [0, 2, 1, 0, 1, 1, 2, 0, 1, 2]])

    def test_it_changes_nothing(self):
        self.assertEqual(ask(*EIGHT, decide(1), shows(), learnt(), shows(), decide(2), learnt())[10:],
                         [[1, 9, 0, 2, 1, 2], ask_last(*EIGHT, shows()), [0, 0],
                          [3, 9, 0, 2, 1, 2, 10, 0, 1, 1, 11, 0, 1, -2]])
