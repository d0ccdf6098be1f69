import unittest

from tests.lines import EIGHT, ask, back, came, clause, decide, forget, learnt, mark, order, shows, start, steps

GREATEST = 4294967295
# EIGHT and decide(60) learn 9 = (1 2), 10 = (1), 11 = (-2)
NINE, TEN, ELEVEN = [9, 0, 2, 1, 2], [10, 0, 1, 1], [11, 0, 1, -2]


def behind_eight(*calls):
    return ask(*EIGHT, decide(60), *calls)[9:]


class Went(unittest.TestCase):
    def test_none_is_there(self):
        self.assertEqual(ask(forget(0), clause(1, 2), forget(0), forget(1), forget(GREATEST)),
                         [[0], [1], [0], [0], [0]])

    def test_all(self):
        self.assertEqual(behind_eight(forget(0), learnt(), forget(0)), [[3], [0], [0]])

    def test_the_longer_ones(self):
        self.assertEqual(behind_eight(forget(1), learnt(), forget(1), forget(0), learnt()),
                         [[1], [2, *TEN, *ELEVEN], [0], [2], [0]])

    def test_as_many_literals_are_not_more(self):
        self.assertEqual(behind_eight(forget(2), forget(3), forget(GREATEST), learnt()),
                         [[0], [0], [0], [3, *NINE, *TEN, *ELEVEN]])

    def test_given_ones_stay_however_long_they_are(self):
        told = behind_eight(shows(), forget(1), shows(), forget(0), shows())
        self.assertEqual([told[2], told[4]], [told[0], told[0]])
        self.assertEqual(told[0][:7], [0, 8, 1, 0, 3, 1, 2])
        self.assertEqual(ask(start(12), clause(*range(1, 13)), clause(-1), forget(0), forget(11), shows())[3:],
                         [[0], [0], [0, 2, 1, 0, 12, *range(1, 13), 2, 0, 1, -1]])


class BehindIt(unittest.TestCase):
    def test_numbers_are_not_used_again(self):
        self.assertEqual(behind_eight(forget(0), clause(1), clause(2)), [[3], [12], [13]])

    def test_came(self):
        # 9 is gone, but 10 came of it all the same
        self.assertEqual(behind_eight(forget(1), came(9), came(10), came(11)),
                         [[1], [-3], [3, 4, 3, 9], [3, 8, 7, 10]])

    def test_decide_with_what_is_left(self):
        # 1 by 10, -2 by 11, 3 by 5; 6 is broken at level 0; of 10 and 11 nothing is left behind forget(0)
        self.assertEqual(behind_eight(forget(1), decide(0), forget(0), decide(0)), [[1], [0, 0], [2], [2]])

    def test_it_is_learnt_again(self):
        # 1, 3 were so when last set, 2 wasn't: 1 (1); -2 (2), 3 by 5; 6 is broken: 12 = (-1 2), back to 1
        # 2 by 12, 3 by 7; 8 is broken: -3 goes out (7), -2 (12): 13 = (-1), back to 0
        # -1 by 13; 2 as it was, 3 by 3; 4 is broken: -3 goes out (3), 1 (13): 14 = (-2); then 2 is broken at level 0
        told = behind_eight(order(), forget(0), order(), decide(60), learnt(), came(12), came(13), came(14), came(9))
        self.assertEqual(told, [
            [3, 1, -2, 3], [3], [3, 1, -2, 3], [0, 0], [3, 12, 0, 2, -1, 2, 13, 0, 1, -1, 14, 0, 1, -2],
            [2, 6, 5], [3, 8, 7, 12], [3, 4, 3, 13], [-3]])

    def test_the_same_clause_has_another_number(self):
        # -1, 2 by 1; 2 is broken: 3 = (1); under -1 it goes wrong in the same way again
        told = ask(clause(1, 2), clause(1, -2), decide(60), forget(0), decide(60, -1), learnt(), came(4), came(3))
        self.assertEqual(told[2:], [[1, 3, 1, 1, 0], [1], [0, 1, -1], [1, 4, 0, 1, 1], [2, 2, 1], [-3]])

    def test_back(self):
        # heights: 9 0, 10 1, 11 2; 9 is forgotten, and 10 still goes with its mark
        calls = [*EIGHT[:2], mark(), *EIGHT[2:4], mark(), *EIGHT[4:], decide(60), forget(1)]
        told = ask(*calls, learnt(), back(), learnt(), back(), learnt())
        self.assertEqual(told[len(calls) - 1:], [[1], [2, 10, 1, 1, 1, 11, 2, 1, -2], [4, 1], [1, 10, 1, 1, 1],
                                                 [2, 0], [0]])

    def test_marks_and_the_order_stay(self):
        # 5 = (4) of 4 3 2 1, the order 2 3 4 5 1
        calls = [start(5), mark(), clause(2), clause(-3, -2), clause(3, 4, 5), clause(3, 4, -5), decide(60, -1)]
        told = ask(*calls, order(), forget(0), order(), mark(), back(), back(), back())
        self.assertEqual(told[7:], [[5, 2, -3, 4, 5, -1], [1], [5, 2, -3, 4, 5, -1], [2], [4, 0], [0, 0], [-7]])

    def test_steps(self):
        self.assertEqual(ask(*EIGHT[:4], steps(1), decide(60), steps(1), forget(0), steps(1))[4:],
                         [[0], [1, 3, 1, 1, 1], [1], [2], [0]])
