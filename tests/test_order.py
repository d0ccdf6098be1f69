import unittest

from tests.lines import ask, ask_last, back, clause, decide, forget, learnt, mark, order, shows, start


class AtFirst(unittest.TestCase):
    def test_no_call_before(self):
        self.assertEqual(ask(order()), [[3, -1, -2, -3]])

    def test_behind_start(self):
        for n in range(1, 13):
            self.assertEqual(ask(start(n), order()), [[n], [n, *[-k for k in range(1, n + 1)]]])

    def test_start_takes_all_back(self):
        # the order is 2 3 1, and all were so
        wrong = [mark(), clause(2, 3), clause(2, -3), decide(60, 1)]
        self.assertEqual(ask(*wrong, order(), start(3), order(), start(4), order())[3:],
                         [[1, 3, 1, 1, 1], [3, 2, 3, 1], [3], [3, -1, -2, -3], [4], [4, -1, -2, -3, -4]])

    def test_a_refused_start_takes_nothing_back(self):
        self.assertEqual(ask(decide(0, 2), start(0), order(), start(13), order())[1:],
                         [[-1], [3, -1, 2, -3], [-1], [3, -1, 2, -3]])


class BehindDecide(unittest.TestCase):
    def test_it_fits(self):
        self.assertEqual(ask(clause(-1, 3), decide(0, 1), order()), [[1], [1, 3, 1, 0, 1], [3, 1, -2, 3]])

    def test_it_can_never_be(self):
        # 2; 3; -3 is not so: 1 was never set
        self.assertEqual(ask(decide(0, 2, 3, -3), order()), [[0, 2, 3, -3], [3, -1, 2, 3]])
        # -1, 2 by 1; 2 is broken: 3 = (1); 1 by 3, and -1 is not so; 3 was never set
        self.assertEqual(ask(clause(1, 2), clause(1, -2), decide(60, -1), order())[2:], [[0, 1, -1], [3, 1, 2, -3]])

    def test_it_can_never_be_at_level_0(self):
        # 3 by 1, 2 by 2; 3 is broken: what was set at level 0 was set too
        self.assertEqual(ask(clause(3), clause(2, -3), clause(-2), decide(0), order())[3:], [[0, 0], [3, -1, 2, 3]])

    def test_it_is_enough(self):
        self.assertEqual(ask(clause(1, 2), clause(1, -2), decide(0), order())[2:], [[2], [3, -1, 2, -3]])
        # -1; -2, 3 by 1; 2 is broken: 5 = (2) of 2 1; 2 by 5; 3 as it was, 4 by 3; 4 is broken
        self.assertEqual(ask(start(4), clause(2, 3), clause(2, -3), clause(-3, 4), clause(-3, -4), decide(1),
                             order())[5:], [[2], [4, 2, 3, -1, 4]])

    def test_variables_of_what_it_came_of_come_first(self):
        # 4; 5; -1, 2 by 1; 2 is broken: 3 = (1 -4) of 2 1
        self.assertEqual(ask(start(5), clause(-4, 1, 2), clause(-4, 1, -2), decide(60, 4, 5), order())[3:],
                         [[1, 5, 1, 1, 0, 1, 1], [5, 1, 2, 4, -3, 5]])

    def test_variables_that_went_out_at_level_0_too(self):
        # 2 by 1, -3 by 2 (level 0); -1; -4, 5 by 3; 4 is broken: 5 = (4) of 4 3 2 1
        self.assertEqual(ask_last(start(5), clause(2), clause(-3, -2), clause(3, 4, 5), clause(3, 4, -5),
                                  decide(60, -1), order()), [5, 2, -3, 4, 5, -1])

    def test_variables_of_other_clauses_do_not(self):
        # 2 by 1 (level 0) is in none of what 5 came of: -4, 5 by 3; 4 is broken
        self.assertEqual(ask_last(start(5), clause(2), clause(2, 3), clause(4, 5), clause(4, -5), decide(60, -1),
                                  order()), [5, 4, 5, -1, 2, -3])

    def test_several_times_wrong_in_one_search(self):
        # -1; -2; -3, 6 by 3; 4 is broken: 5 = (3), the order 3 6 1 2 4 5; back to 0
        # 3 by 5; 6 as it was; -1; -2; -4, 5 by 1; 2 is broken: 6 = (4), the order 4 5 3 6 1 2; back to 0
        # 3 by 5, 4 by 6; 5 as it was; 6; -1; -2
        told = ask(start(6), clause(4, 5), clause(4, -5), clause(3, 6), clause(3, -6), decide(60), learnt(), order())
        self.assertEqual(told[5:], [[1, 6, 0, 0, 1, 1, 1, 1], [2, 5, 0, 1, 3, 6, 0, 1, 4], [6, 4, 5, 3, 6, -1, -2]])

    def test_several_searches(self):
        # -1; -2; -3, 4 by 1; 2 is broken: 3 = (3), the order 3 4 1 2
        first = [start(4), mark(), clause(3, 4), clause(3, -4), decide(60)]
        # -1, 3 by 4; 5 is broken: 6 = (1), the order 3 1 4 2; 1 by 6
        second = [back(), mark(), clause(1, 3), clause(1, -3), decide(60, -1)]
        told = ask(*first, order(), *second, order(), decide(0, -3, -1), order(), decide(0, 2), order())
        self.assertEqual(told[5:], [[4, 3, 4, -1, -2], [0, 0], [1], [4], [5], [0, 1, -1], [4, 3, 1, 4, -2],
                                    [0, 1, -1], [4, -3, 1, 4, -2], [1, 4, 1, 1, 0, 1], [4, -3, 1, 4, 2]])

    def test_set_one_way_and_then_the_other(self):
        self.assertEqual(ask(decide(0, 1, 3), order(), decide(0, -1), order(), decide(0, 1, -3), order()),
                         [[1, 3, 1, 0, 1], [3, 1, -2, 3], [1, 3, 0, 0, 1], [3, -1, -2, 3], [1, 3, 1, 0, 0],
                          [3, 1, -2, -3]])

    def test_what_was_undone_was_set(self):
        # 1; 2; -3 (3), -4 by 1; 2 is broken: 3 = (3), back to 0; 3 by 3; 1; 2; -4 stays as it was set last
        told = ask(start(4), clause(3, -4), clause(3, 4), decide(0, 1, 2), order(), decide(60, 1, 2), order())
        self.assertEqual(told[3:], [[2], [4, 1, 2, -3, -4], [1, 4, 1, 1, 1, 0], [4, 3, -4, 1, 2]])


class NotBehindOthers(unittest.TestCase):
    def test_other_calls_change_nothing(self):
        wrong = [start(5), mark(), clause(-4, 1, 2), clause(-4, 1, -2), decide(60, 4, 5)]
        told = ask(*wrong, order(), clause(3), order(), mark(), order(), learnt(), shows(), forget(0), order(),
                   back(), order(), back(), order(), decide(61), decide(0, 6), clause(6), order(), order())
        orders = [answer for answer in told if answer[:2] == [5, 1]]
        self.assertEqual(orders, [[5, 1, 2, 4, -3, 5]] * 8)
