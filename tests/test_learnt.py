import unittest

from tests.lines import EIGHT, ask, ask_last, back, clause, decide, learnt, mark, start


class Told(unittest.TestCase):
    def test_none(self):
        self.assertEqual(ask(learnt(), clause(1), decide(60), learnt()), [[0], [1], [1, 3, 1, 0, 0], [0]])

    def test_given_ones_are_not_told(self):
        self.assertEqual(ask_last(clause(1, 2), clause(3), clause(1, -2), decide(60), learnt()), [1, 4, 0, 1, 1])

    def test_it_changes_nothing(self):
        told = ask(*EIGHT, decide(2), learnt(), learnt(), decide(1), learnt())
        two = [9, 0, 2, 1, 2, 10, 0, 1, 1]
        self.assertEqual(told[9:], [[2, *two], [2, *two], [0, 0], [3, *two, 11, 0, 1, -2]])


class TakenApart(unittest.TestCase):
    def test_three_times_wrong(self):
        self.assertEqual(ask_last(*EIGHT, decide(60), learnt()), [3, 9, 0, 2, 1, 2, 10, 0, 1, 1, 11, 0, 1, -2])

    def test_it_ends_where_one_is_left_of_the_present_level(self):
        # -1, 2 by 1, 3 by 2, 4 by 3; 4 is broken: -4 goes out (3), -3 (2): 5 = (-2), not (1)
        # the order 2 3 4 1; -2 by 5, 1 by 1; 3 as it was, -4 by 4
        told = ask(start(4), clause(1, 2), clause(-2, 3), clause(-2, 4), clause(-3, -4), decide(60), learnt())
        self.assertEqual(told[5:], [[1, 4, 1, 0, 1, 0], [1, 5, 0, 1, -2]])

    def test_a_long_way(self):
        # three into two: -1, 2 by 1, -4 by 7, 3 by 2, -5 by 6, 6 by 3; 8 is broken;
        # out go -6 (3), 5 (6), -3 (2), 4 (7): 10 = (-2) of 8 3 6 2 7, not of 9
        three = [clause(1, 2), clause(3, 4), clause(5, 6), clause(-1, -3), clause(-1, -5), clause(-3, -5),
                 clause(-2, -4), clause(-2, -6), mark(), clause(-4, -6)]
        told = ask(start(6), *three, decide(60), learnt(), back(), learnt(), decide(0), clause(1))
        # -2 by 10, 1 by 1, -3 by 4, 4 by 2, -5 by 5, 6 by 3; 9 is broken at level 0
        self.assertEqual(told[11:], [[0, 0], [1, 10, 0, 1, -2], [8, 1], [1, 10, 0, 1, -2],
                                     [1, 6, 1, 0, 0, 1, 0, 1], [11]])

    def test_it_goes_back_as_far_as_the_clause_lets_it(self):
        # 4 (1); 3 (2); 5 (3), -1 by 3, 2 by 1; 2 is broken: -2 goes out: 6 = (1 -4), back to 1, not 2
        # 1 by 6, -5 by 3; 3 (2), 6 by 4; 5 is broken: -6 goes out: 7 = (-1 -3), back to 1
        # -3 by 7: 3 is not so, -3 comes of 1, 1 of 4
        told = ask(start(6), clause(-4, 1, 2), clause(-4, 1, -2), clause(-1, -5), clause(-1, 6, -3),
                   clause(-1, -6, -3), decide(60, 4, 3, 5), learnt(), decide(0))
        self.assertEqual(told[6:], [[0, 2, 4, 3], [2, 6, 0, 2, 1, -4, 7, 0, 2, -1, -3], [1, 6, 1, 1, 0, 1, 0, 1]])

    def test_clauses_are_looked_at_from_the_first_again(self):
        # -1, 2 by 2, then 3 by 1; 3 is broken: of 3 1 2, without 4, which is higher
        told = ask(clause(-2, 3), clause(1, 2), clause(1, -2, -3), mark(), clause(1, 3), decide(60), learnt())
        self.assertEqual(told[5:], [[1, 3, 1, 1, 1], [1, 5, 0, 1, 1]])

    def test_levels_below_stay_as_they_are(self):
        # -1 (1); -2 (2); -3 (3), 4 by 1; 2 is broken: 4 = (2 3), back to 2, the order 2 3 4 1
        # 3 by 4, -4 by 3; from level 0 it were -2, 3, 4 as it was, and 1
        told = ask(start(4), clause(2, 3, 4), clause(2, 3, -4), clause(1, -3, -4), decide(60), learnt())
        self.assertEqual(told[4:], [[1, 4, 0, 0, 1, 0], [1, 4, 0, 2, 2, 3]])

    def test_a_learnt_one_ahead_of_a_given_one(self):
        # 5 = (1) of 2 1; then 1 by 5 (level 0), 2 as it was, -3, 4 by 3; 4 is broken, and it is enough
        calls = [start(4), clause(1, 2), clause(1, -2), clause(-1, 3, 4), clause(-1, 3, -4), decide(1),
                 mark(), clause(1), decide(60), learnt()]
        # 1 by 5, not by 6, which is higher; as before: -4 goes out (3), -1 (5): 7 = (3) of 4 3 5
        self.assertEqual(ask(*calls)[5:], [[2], [1], [6], [1, 4, 1, 1, 1, 1], [2, 5, 0, 1, 1, 7, 0, 1, 3]])

    def test_a_given_one_ahead_of_a_learnt_one(self):
        # 7 (1); 4 (2); -1 (3), 2 by 1; 2 is broken: 7 = (1 -4); 1 by 7, 6 by 4; 5 is broken, and it is enough
        calls = [start(7), clause(-4, 1, 2), clause(-4, 1, -2), clause(-4, 3, 7), clause(-1, 6), clause(-1, -6, -4),
                 mark(), clause(1, -3), decide(1, 7, 4), learnt(), decide(60, -7, 4), learnt()]
        # -7 (1); 4 (2), 3 by 3, 1 by 6 ahead of 7, 6 by 4; 5 is broken: out go -6 (4), -1 (6), -3 (3): 8 = (-4 7)
        self.assertEqual(ask(*calls)[8:], [[2], [1, 7, 0, 2, 1, -4], [0, 2, -7, 4],
                                           [2, 7, 0, 2, 1, -4, 8, 1, 2, -4, 7]])


class Heights(unittest.TestCase):
    def test_the_greatest_of_those_it_came_of(self):
        for marks_before, heights in (((0, 0, 0), (0, 0, 0)), ((1, 0, 0), (1, 1, 1)), ((0, 1, 0), (0, 1, 1)),
                                      ((0, 0, 1), (0, 0, 1)), ((1, 2, 3), (1, 3, 6))):
            with self.subTest(marks_before=marks_before):
                first, second, third = marks_before
                calls = [*[mark()] * first, *EIGHT[:2], *[mark()] * second, *EIGHT[2:4], *[mark()] * third,
                         *EIGHT[4:]]
                low, middle, high = heights
                self.assertEqual(ask_last(*calls, decide(60), learnt()),
                                 [3, 9, low, 2, 1, 2, 10, middle, 1, 1, 11, high, 1, -2])

    def test_marks_without_clauses_do_not_count(self):
        self.assertEqual(ask_last(clause(1, 2), clause(1, -2), mark(), mark(), decide(60), learnt()),
                         [1, 3, 0, 1, 1])

    def test_what_went_out_at_level_0_counts(self):
        # 2 by 1, -3 by 2 at level 0; -1 (1); -4 (2), 5 by 3; 4 is broken: -5 goes out (3), 3 (2), -2 (1)
        for place in range(4):
            with self.subTest(place=place):
                calls = [clause(2), clause(-3, -2), clause(3, 4, 5), clause(3, 4, -5)]
                calls.insert(place, mark())
                self.assertEqual(ask_last(start(5), *calls, decide(60, -1), learnt()), [1, 5, 1, 1, 4])

    def test_what_is_not_behind_it_does_not_count(self):
        # -4 at level 0 by 3 is in none of the clauses that 4 comes of
        told = ask(start(4), clause(1, 2), clause(1, -2), mark(), clause(-4), decide(60), learnt(), back(), learnt())
        self.assertEqual(told[5:], [[1, 4, 1, 1, 0, 0], [1, 4, 0, 1, 1], [2, 1], [1, 4, 0, 1, 1]])

    def test_learnt_ones_among_those_it_came_of_count(self):
        # -1, 2 by 3; 4 is broken: 5 = (1) of 4 3; 1 by 5; 2; -3, 4 by 1; 2 is broken: 6 = (3) of 2 1 5
        told = ask(start(4), clause(-1, 3, 4), clause(-1, 3, -4), mark(), clause(1, 2), clause(1, -2), decide(60),
                   learnt(), back(), learnt())
        self.assertEqual(told[6:], [[1, 4, 1, 1, 1, 1], [2, 5, 1, 1, 1, 6, 1, 1, 3], [2, 0], [0]])
