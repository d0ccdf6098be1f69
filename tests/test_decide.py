import unittest

from tests.lines import EIGHT, ask, ask_last, back, clause, decide, learnt, mark, start

LEAST = -2147483648
GREATEST = 2147483647


class Fits(unittest.TestCase):
    def test_no_clause_no_assumption(self):
        self.assertEqual(ask(start(5), decide(0), decide(60)), [[5], [1, 5, 0, 0, 0, 0, 0], [1, 5, 0, 0, 0, 0, 0]])

    def test_assumptions_are_so(self):
        self.assertEqual(ask_last(start(5), decide(0, 4, -1, 2)), [1, 5, 0, 1, 0, 1, 0])

    def test_assumptions_told_several_times(self):
        self.assertEqual(ask_last(decide(0, 3, 3, -2, 3, -2)), [1, 3, 0, 0, 1])

    def test_what_follows_is_set(self):
        # 3 by 3; -2 by 2; 1 by 1, all at level 0
        self.assertEqual(ask_last(clause(1, 2), clause(-2, -3), clause(3), decide(0)), [1, 3, 1, 0, 1])

    def test_an_assumption_that_is_so_already(self):
        self.assertEqual(ask_last(clause(-1, 3), decide(0, 1, 3, 2)), [1, 3, 1, 1, 1])
        self.assertEqual(ask_last(clause(3), decide(0, 3, 3)), [1, 3, 0, 0, 1])

    def test_what_goes_wrong_first_fits_then(self):
        # -1; 2 by 1; 2 is broken: 3 = (1); 1 by 3 at level 0; 2 as it was set last; -3
        self.assertEqual(ask_last(clause(1, 2), clause(1, -2), decide(60)), [1, 3, 1, 1, 0])


class NeverAtLevel0(unittest.TestCase):
    def test_two_clauses_of_one_literal(self):
        self.assertEqual(ask(clause(2), clause(-2), decide(0), decide(60, 1, 3, 1), learnt()),
                         [[1], [2], [0, 0], [0, 0], [0]])

    def test_it_is_not_enough_at_level_0(self):
        # -1; 2 by 1; 2 is broken: 5 = (1); 1 by 5; 2 by 3; 4 is broken at level 0
        four = [clause(1, 2), clause(1, -2), clause(-1, 2), clause(-1, -2)]
        self.assertEqual(ask(*four, decide(1), learnt(), decide(0), decide(0, 1))[4:],
                         [[0, 0], [1, 5, 0, 1, 1], [0, 0], [0, 0]])

    def test_after_three_learnt_ones(self):
        self.assertEqual(ask(*EIGHT, decide(3), decide(0), decide(60, -3))[8:], [[0, 0], [0, 0], [0, 0]])


class Enough(unittest.TestCase):
    def test_most_0(self):
        self.assertEqual(ask(clause(1, 2), clause(1, -2), decide(0), learnt(), decide(0, -1), decide(0, 1))[2:],
                         [[2], [0], [2], [1, 3, 1, 1, 0]])

    def test_as_many_as_may_be_in_this_search(self):
        self.assertEqual(ask(*EIGHT, decide(2), learnt(), decide(0), decide(1), learnt())[8:], [
            [2], [2, 9, 0, 2, 1, 2, 10, 0, 1, 1], [2], [0, 0], [3, 9, 0, 2, 1, 2, 10, 0, 1, 1, 11, 0, 1, -2]])

    def test_one_at_a_time(self):
        # with 9 alone it goes as it went: -1; 2 by 9; 3 by 3; 4 is broken
        self.assertEqual(ask(*EIGHT, *[decide(1)] * 3, learnt())[8:], [
            [2], [2], [0, 0], [3, 9, 0, 2, 1, 2, 10, 0, 1, 1, 11, 0, 1, -2]])

    def test_most_that_suffices_is_not_too_little(self):
        self.assertEqual(ask_last(clause(1, 2), clause(1, -2), decide(1)), [1, 3, 1, 1, 0])


class AtFault(unittest.TestCase):
    def test_against_each_other(self):
        self.assertEqual(ask_last(decide(0, 1, -1)), [0, 2, 1, -1])
        self.assertEqual(ask_last(decide(0, -3, 2, 3)), [0, 2, -3, 3])
        self.assertEqual(ask_last(decide(0, 2, 1, 3, -1, -3)), [0, 2, 1, -1])

    def test_one_told_several_times_as_often(self):
        self.assertEqual(ask_last(decide(0, 1, 2, 1, -1, 2, 1, -1)), [0, 5, 1, 1, -1, 1, -1])

    def test_those_it_comes_of(self):
        # 5; 1, 3 by 1; 2, 4 by 2; so -4 is not so: 4 comes of 3 and 2, 3 of 1
        chain = [start(5), clause(-1, 3), clause(-3, -2, 4)]
        self.assertEqual(ask_last(*chain, decide(0, 5, 1, 2, -4)), [0, 3, 1, 2, -4])
        self.assertEqual(ask_last(*chain, decide(0, 2, 5, -4, 1)), [0, 3, 2, -4, 1])
        self.assertEqual(ask_last(*chain, decide(0, -4, 2, 5, 1)), [0, 3, -4, 2, 1])
        self.assertEqual(ask_last(*chain, decide(0, 5, 1, 5, 1, 2, -4, 2, -4)), [0, 6, 1, 1, 2, -4, 2, -4])

    def test_one_that_is_so_already_is_not_at_fault(self):
        chain = [start(5), clause(-1, 3), clause(-3, -2, 4)]
        self.assertEqual(ask_last(*chain, decide(0, 1, 3, 2, -4)), [0, 3, 1, 2, -4])
        self.assertEqual(ask_last(*chain, decide(0, 3, 1, 2, -4)), [0, 3, 3, 2, -4])

    def test_the_first_that_is_not_so(self):
        # 1; -2 by 1 and -3 by 2: of 2 and 3 the one told first is at fault
        both = [clause(-1, -2), clause(-1, -3)]
        self.assertEqual(ask_last(*both, decide(0, 1, 3, 2)), [0, 2, 1, 3])
        self.assertEqual(ask_last(*both, decide(0, 1, 2, 3)), [0, 2, 1, 2])

    def test_at_level_0_of_nothing(self):
        self.assertEqual(ask_last(clause(-2), decide(0, 1, 2)), [0, 1, 2])
        self.assertEqual(ask_last(clause(-2), decide(0, 2, 1, 2)), [0, 2, 2, 2])
        # 3 by 1 at level 0; 2, 1 by 2: 1 comes of 2 alone
        self.assertEqual(ask_last(clause(3), clause(-3, -2, 1), decide(0, 3, 2, -1)), [0, 2, 2, -1])

    def test_by_a_learnt_clause(self):
        # 1; -2; 3 by 5; 6 is broken: 9 = (-1 2); 2 by 9, 3 by 7; 8 is broken: 10 = (-1); -1 at level 0
        told = ask(*EIGHT, decide(60, 1), learnt(), decide(60), learnt())
        self.assertEqual(told[8:10], [[0, 1, 1], [2, 9, 0, 2, -1, 2, 10, 0, 1, -1]])
        # -1 by 10; 2 as it was; 3 by 3; 4 is broken: 11 = (-2) of 4 3 10; -2, 3 by 1; 2 is broken at level 0
        self.assertEqual(told[10:], [[0, 0], [3, 9, 0, 2, -1, 2, 10, 0, 1, -1, 11, 0, 1, -2]])


class Refused(unittest.TestCase):
    def test_no_such_variable(self):
        for literal in (0, 4, -4, LEAST, GREATEST):
            with self.subTest(literal=literal):
                self.assertEqual(ask(decide(0, literal), decide(60, 1, literal, 2)), [[-2], [-2]])

    def test_most_above_sixty(self):
        self.assertEqual(ask(decide(60), decide(61), decide(4294967295, 1)), [[1, 3, 0, 0, 0], [-1], [-1]])

    def test_of_several_the_one_told_first(self):
        self.assertEqual(ask(decide(61, 0), decide(4294967295, 1, LEAST)), [[-2], [-2]])

    def test_it_is_refused_whatever_the_clauses(self):
        self.assertEqual(ask(clause(), decide(61), decide(0, 4)), [[1], [-1], [-2]])

    def test_it_leaves_all_as_it_was(self):
        told = ask(clause(1, 2), clause(1, -2), decide(61, 3), decide(60, 3, 4), learnt(), clause(2, 3), decide(60))
        self.assertEqual(told[2:], [[-1], [-2], [0], [3], [1, 3, 1, 1, 0]])


class WhatStays(unittest.TestCase):
    def test_assumptions_count_as_set(self):
        self.assertEqual(ask(decide(0, 2), decide(0), decide(0, -2, 3), decide(0)),
                         [[1, 3, 0, 1, 0], [1, 3, 0, 1, 0], [1, 3, 0, 0, 1], [1, 3, 0, 0, 1]])

    def test_what_followed_counts_as_set(self):
        # 3 follows of 1; then -1 is assumed, and 3 is free, but as it was
        self.assertEqual(ask(clause(-1, 3), decide(0, 1), decide(0, -1)), [[1], [1, 3, 1, 0, 1], [1, 3, 0, 0, 1]])

    def test_what_was_undone_counts_as_set(self):
        # 2 is set by 1 on the way to what goes wrong; it is undone, and set again as it was
        self.assertEqual(ask(clause(1, 2), clause(1, -2), decide(0), decide(0, 1)), [[1], [2], [2], [1, 3, 1, 1, 0]])

    def test_settings_stay_behind_what_can_never_be(self):
        self.assertEqual(ask(decide(0, 2, 3, -3), decide(0)), [[0, 2, 3, -3], [1, 3, 0, 1, 1]])

    def test_no_setting_itself_stays(self):
        self.assertEqual(ask(decide(0, 1, 2, 3), decide(0, -1, -2, -3)), [[1, 3, 1, 1, 1], [1, 3, 0, 0, 0]])

    def test_the_order_shows_in_the_next(self):
        # 4; 5; -1, 2 by 1; 2 is broken: 3 = (1 -4), the order 1 2 4 3 5; back to level 1, 1 by 3; 5; 2; -3
        wrong = [start(5), clause(-4, 1, 2), clause(-4, 1, -2), decide(60, 4, 5)]
        self.assertEqual(ask(*wrong, learnt())[3:], [[1, 5, 1, 1, 0, 1, 1], [1, 3, 0, 2, 1, -4]])
        # 1; 2; 4 as it was, and 3 by 4; were 3 first, it were -3 and -4
        self.assertEqual(ask(*wrong, clause(3, -4), decide(0))[4:], [[4], [1, 5, 1, 1, 1, 1, 1]])
        # 3 is still ahead of 5
        self.assertEqual(ask(*wrong, clause(3, -5), decide(0))[4:], [[4], [1, 5, 1, 1, 0, 1, 0]])

    def test_the_order_stays_when_it_is_enough(self):
        # -1; -2, 3 by 1; 2 is broken: 5 = (2) of 2 1, the order 2 3 1 4; 2 by 5; 3 as it was, 4 by 3; 4 is broken
        wrong = [start(4), clause(2, 3), clause(2, -3), mark(), clause(-3, 4), clause(-3, -4), decide(1)]
        told = ask(*wrong, learnt(), back(), clause(1, -3), decide(0))
        # 3 as it was, and 1 by 6; were 1 first, it were -1 and -3
        self.assertEqual(told[6:], [[2], [1, 5, 0, 1, 2], [2, 1], [6], [1, 4, 1, 1, 1, 1]])

    def test_variables_stay_as_they_stood_to_each_other(self):
        # -1; -2; -3, 4 by 1; 2 is broken: 3 = (3) of 2 1, the order 3 4 1 2; 3 by 3; 4 as it was; -1; -2
        first = [start(4), mark(), clause(3, 4), clause(3, -4), decide(60), back()]
        # -1, 3 by 4; 5 is broken: 6 = (1) of 5 4, the order 3 1 4 2; 1 by 6
        second = [mark(), clause(1, 3), clause(1, -3), decide(60, -1), back()]
        told = ask(*first, *second)
        self.assertEqual([told[4], told[9]], [[1, 4, 0, 0, 1, 1], [0, 1, -1]])
        # behind this all but 2 were so when last set: each of these clauses shows which of two comes first
        self.assertEqual(ask_last(*first, *second, clause(-1, -3), decide(0)), [1, 4, 0, 0, 1, 1])
        self.assertEqual(ask_last(*first, *second, clause(-1, -4), decide(0)), [1, 4, 1, 0, 1, 0])
        self.assertEqual(ask_last(*first, *second, clause(2, -4), decide(0)), [1, 4, 1, 1, 1, 1])

    def test_variables_of_all_those_clauses_come_first(self):
        # -5; -1, 2 by 1; 2 is broken: 3 = (1 5) of 2 1, the order 1 2 5 3 4, if 5 is in one of the two
        for pair in ((clause(1, 2, 5), clause(1, -2)), (clause(1, 2), clause(1, -2, 5))):
            told = ask(start(5), *pair, decide(60, -5), learnt(), clause(3, 5), decide(0))
            self.assertEqual(told[3:], [[1, 5, 1, 1, 0, 0, 0], [1, 3, 0, 2, 1, 5], [4], [1, 5, 1, 1, 1, 0, 0]])
