import unittest

from tests.lines import EIGHT, ask, ask_last, back, clause, decide, learnt, mark, start


class Marks(unittest.TestCase):
    def test_eight_and_no_more(self):
        self.assertEqual(ask(*[mark()] * 10), [[k] for k in range(1, 9)] + [[-5], [-5]])

    def test_the_ninth_leaves_all_as_it_was(self):
        told = ask(*[mark()] * 9, clause(1), back(), *[back()] * 8)
        self.assertEqual(told[8:], [[-5], [1], [0, 0]] + [[0, 0]] * 7 + [[-7]])

    def test_room_again_behind_back(self):
        self.assertEqual(ask(*[mark()] * 8, back(), mark(), mark())[-3:], [[0, 0], [8], [-5]])

    def test_a_mark_changes_no_clause(self):
        self.assertEqual(ask(clause(2), mark(), decide(0), clause(-2), decide(0), back(), decide(0)),
                         [[1], [1], [1, 3, 0, 1, 0], [2], [0, 0], [1, 0], [1, 3, 0, 1, 0]])


class Back(unittest.TestCase):
    def test_with_no_mark(self):
        self.assertEqual(ask(back()), [[-7]])
        told = ask(clause(1, 2), clause(1, -2), decide(60), back(), learnt(), clause(3), mark(), back(), back())
        self.assertEqual(told[3:], [[-7], [1, 3, 0, 1, 1], [4], [1], [3, 1], [-7]])

    def test_given_ones_go_by_their_heights(self):
        calls = [clause(1), mark(), clause(2), clause(3), mark(), mark(), clause(-3), decide(0, 1)]
        told = ask(*calls, back(), back(), decide(0), back(), decide(0, -2, -3))
        self.assertEqual(told[len(calls) - 1:], [[0, 0], [3, 0], [3, 0], [1, 3, 1, 1, 1], [1, 0], [1, 3, 1, 0, 0]])

    def test_numbers_are_not_used_again(self):
        told = ask(mark(), clause(1, 2), clause(1, -2), decide(60), learnt(), back(), clause(1), learnt(),
                   mark(), clause(2), back(), clause(3))
        self.assertEqual(told[4:], [[1, 3, 1, 1, 1], [0, 0], [4], [0], [1], [5], [1, 0], [6]])

    def test_learnt_ones_stay_as_long_as_what_they_came_of(self):
        # heights by hand: 9 of 2 1; 10 of 4 3 9; 11 of 8 7 10
        calls = [*EIGHT[:2], mark(), *EIGHT[2:4], mark(), *EIGHT[4:], decide(60), learnt()]
        told = ask(*calls, back(), learnt(), back(), learnt(), clause(1))
        self.assertEqual(told[len(calls) - 2:], [
            [0, 0],
            [3, 9, 0, 2, 1, 2, 10, 1, 1, 1, 11, 2, 1, -2],
            [4, 2], [2, 9, 0, 2, 1, 2, 10, 1, 1, 1],
            [2, 1], [1, 9, 0, 2, 1, 2],
            [12]])

    def test_learnt_of_clauses_without_a_mark_stays(self):
        told = ask(clause(1, 2), clause(1, -2), mark(), mark(), clause(3), decide(60), learnt(), back(), back(),
                   learnt())
        self.assertEqual(told[5:], [[1, 3, 1, 1, 1], [1, 4, 0, 1, 1], [2, 1], [2, 1], [1, 4, 0, 1, 1]])

    def test_a_clause_behind_level_0_counts_for_the_height(self):
        # -3 by 3 (level 0); -1; 2 by 1; 2 is broken: -2 goes out (1), then 3 (3): 4 = (1) of 2 1 3
        told = ask(clause(1, 2, 3), clause(1, -2, 3), mark(), clause(-3), decide(60), learnt(), back(), learnt(),
                   decide(60, -1), clause(2))
        self.assertEqual(told[4:], [[1, 3, 1, 1, 0], [1, 4, 1, 1, 1], [2, 0], [0], [1, 3, 0, 1, 1], [5]])

    def test_the_order_and_how_variables_were_set_stay(self):
        # 2 by 1, -3 by 2 (level 0), -1 assumed; -4, 5 by 3; 4 is broken: -5 goes out (3), then 3 (2), -2 (1):
        # 5 = (4) of 4 3 2 1, the order 2 3 4 5 1; then 4 by 5, -1 again, 5 as it was last
        wrong = [start(5), mark(), clause(2), clause(-3, -2), clause(3, 4, 5), clause(3, 4, -5), decide(60, -1)]
        told = ask(*wrong, learnt(), back(), clause(1, -2), decide(0))
        self.assertEqual(told[6:], [[1, 5, 0, 1, 0, 1, 1], [1, 5, 1, 1, 4], [0, 0], [6], [1, 5, 1, 1, 0, 1, 1]])
        # 3 ahead of 1 too, and 2 ahead of 3
        self.assertEqual(ask_last(*wrong, back(), clause(1, 3), decide(0)), [1, 5, 1, 1, 0, 1, 1])
        self.assertEqual(ask_last(*wrong, back(), clause(-2, 3), decide(0)), [1, 5, 0, 1, 1, 1, 1])
