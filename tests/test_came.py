import unittest

from tests.lines import EIGHT, ask, ask_last, back, came, clause, decide, forget, learnt, mark, order, shows, start, steps

GREATEST = 4294967295


class Told(unittest.TestCase):
    def test_the_broken_clause_first(self):
        # -1, 2 by 1; 2 is broken: 3 = (1)
        self.assertEqual(ask_last(clause(1, 2), clause(1, -2), decide(60), came(3)), [2, 2, 1])
        # -1, -3 by 1, 2 by 2; 3 is broken: 4 = (1), and 1 has no part in it
        self.assertEqual(ask_last(clause(1, -3), clause(1, 2), clause(1, -2), decide(60), came(4)), [2, 3, 2])

    def test_three_times_wrong(self):
        told = ask(*EIGHT, decide(60), came(9), came(10), came(11), came(12))
        self.assertEqual(told[9:], [[2, 2, 1], [3, 4, 3, 9], [3, 8, 7, 10], [-3]])

    def test_in_the_order_in_which_the_literals_went_out(self):
        # three into two: -1, 2 by 1, -4 by 7, 3 by 2, -5 by 6, 6 by 3; 8 is broken;
        # out go -6 (3), 5 (6), -3 (2), 4 (7): 10 = (-2)
        three = [clause(1, 2), clause(3, 4), clause(5, 6), clause(-1, -3), clause(-1, -5), clause(-3, -5),
                 clause(-2, -4), clause(-2, -6), clause(-4, -6)]
        self.assertEqual(ask_last(start(6), *three, decide(60), came(10)), [5, 8, 3, 6, 2, 7])

    def test_those_that_went_out_at_level_0(self):
        # 2 by 1, -3 by 2 (level 0); -1 (1); -4 (2), 5 by 3; 4 is broken: -5 goes out (3), then 3 (2), -2 (1): 5 = (4)
        self.assertEqual(ask_last(start(5), clause(2), clause(-3, -2), clause(3, 4, 5), clause(3, 4, -5),
                                  decide(60, -1), came(5)), [4, 4, 3, 2, 1])

    def test_at_level_0_too_what_was_set_last_goes_first(self):
        # 2 by 2, -3 by 1 (level 0); -1 (1); -4 (2), 5 by 3; 4 is broken: -5 goes out (3), then 3 (1), -2 (2)
        told = ask(start(5), clause(-3, -2), clause(2), clause(3, -2, 4, 5), clause(3, -2, 4, -5), decide(60),
                   learnt(), came(5))
        self.assertEqual(told[5:], [[1, 5, 0, 1, 0, 1, 1], [1, 5, 0, 1, 4], [4, 4, 3, 1, 2]])
        # -2 by 1, 3 by 2: neither comes of the other, and -3 goes out ahead of 2
        self.assertEqual(ask_last(start(5), clause(-2), clause(3), clause(2, -3, 4, 5), clause(2, -3, 4, -5),
                                  decide(60), came(5)), [4, 4, 3, 2, 1])

    def test_level_0_waits_until_the_present_level_is_done(self):
        # 3 by 1 (level 0); -1 (1), 2 by 2, 4 by 3; 4 is broken: -4 goes out (3), then -2 (2), then -3 (1): 5 = (1)
        told = ask(start(4), clause(3), clause(1, 2), clause(-3, 1, -2, 4), clause(-2, -4, 1), decide(60), learnt(),
                   came(5))
        self.assertEqual(told[5:], [[1, 4, 1, 1, 1, 1], [1, 5, 0, 1, 1], [4, 4, 3, 2, 1]])

    def test_literals_of_lower_levels_stay_in_it(self):
        # 4 (1); -1 (2), 2 by 1; 2 is broken: 3 = (1 -4): what set 4 is no clause, and it is not asked for
        self.assertEqual(ask_last(start(4), clause(-4, 1, 2), clause(-4, 1, -2), decide(60, 4), came(3)), [2, 2, 1])

    def test_of_learnt_clauses_under_marks(self):
        # -1, 2 by 3; 4 is broken: 5 = (1); 1 by 5; 2; -3, 4 by 1; 2 is broken: 6 = (3), -1 went out at level 0
        self.assertEqual(ask(start(4), clause(-1, 3, 4), clause(-1, 3, -4), mark(), clause(1, 2), clause(1, -2),
                             decide(60), came(5), came(6))[7:], [[2, 4, 3], [3, 2, 1, 5]])


class NoSuchClause(unittest.TestCase):
    def test_none_at_all(self):
        for k in (0, 1, 2, 50, GREATEST):
            self.assertEqual(ask(came(k)), [[-3]])

    def test_given_ones_and_numbers_never_used(self):
        for k in (0, 1, 2, 7, 8, 12, 13, GREATEST):
            with self.subTest(k=k):
                self.assertEqual(ask_last(*EIGHT, decide(60), came(k)), [-3])

    def test_a_given_one_behind_a_learnt_one(self):
        self.assertEqual(ask(clause(1, 2), clause(1, -2), decide(60), clause(3), came(3), came(4))[3:],
                         [[4], [2, 2, 1], [-3]])

    def test_what_was_learnt_only_now(self):
        # one at a time: 10 is not there until it is learnt
        told = ask(*EIGHT, decide(1), came(9), came(10), decide(1), came(10), came(11))
        self.assertEqual(told[8:], [[2], [2, 2, 1], [-3], [2], [3, 4, 3, 9], [-3]])

    def test_what_went_by_back(self):
        # heights: 9 0, 10 1, 11 2
        calls = [*EIGHT[:2], mark(), *EIGHT[2:4], mark(), *EIGHT[4:], decide(60)]
        told = ask(*calls, back(), came(9), came(10), came(11), back(), came(9), came(10))
        self.assertEqual(told[len(calls):], [[4, 2], [2, 2, 1], [3, 4, 3, 9], [-3], [2, 1], [2, 2, 1], [-3]])

    def test_what_went_by_forget(self):
        told = ask(*EIGHT, decide(60), forget(1), came(9), came(10), came(11), forget(0), came(10), came(11))
        self.assertEqual(told[9:], [[1], [-3], [3, 4, 3, 9], [3, 8, 7, 10], [2], [-3], [-3]])

    def test_what_went_by_start(self):
        told = ask(*EIGHT, decide(60), start(3), came(9), *EIGHT, clause(1, 2), came(9))
        self.assertEqual([told[10], told[-1]], [[-3], [-3]])

    def test_it_leaves_all_as_it_was(self):
        after = [learnt(), order(), shows(), steps(1), clause(3), decide(0), came(9)]
        for k in (0, 8, 9, 12, GREATEST):
            told = ask(*EIGHT, decide(2), came(k), *after)
            self.assertEqual(told[:9] + told[10:], ask(*EIGHT, decide(2), *after))
