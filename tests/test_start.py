import unittest

from tests.lines import EIGHT, ask, ask_last, back, clause, decide, learnt, mark, start


class Taken(unittest.TestCase):
    def test_one_to_twelve(self):
        for n in range(1, 13):
            with self.subTest(n=n):
                self.assertEqual(ask(start(n), decide(0), clause(n), clause(n + 1)),
                                 [[n], [1, n] + [0] * n, [1], [-2]])

    def test_clauses_and_marks_are_gone(self):
        told = ask(mark(), mark(), *EIGHT, decide(60), start(3), learnt(), back(), decide(0))
        self.assertEqual(told[-4:], [[3], [0], [-7], [1, 3, 0, 0, 0]])

    def test_numbers_begin_at_one_again(self):
        self.assertEqual(ask(*EIGHT, decide(60), start(3), clause(1), clause(2))[-2:], [[1], [2]])

    def test_how_variables_were_set_is_forgotten(self):
        self.assertEqual(ask_last(decide(0, 1, 2, 3), decide(0)), [1, 3, 1, 1, 1])
        self.assertEqual(ask_last(decide(0, 1, 2, 3), start(3), decide(0)), [1, 3, 0, 0, 0])

    def test_the_order_is_forgotten(self):
        # with 1 assumed it goes wrong over 2 and 3 alone, so the order is 2, 3, 1 behind it
        wrong = [clause(2, 3), clause(2, -3), decide(60, 1)]
        self.assertEqual(ask_last(mark(), *wrong, back(), clause(1, 2), decide(0, -3)), [1, 3, 1, 1, 0])
        self.assertEqual(ask_last(mark(), *wrong, start(3), clause(1, 2), decide(0, -3)), [1, 3, 0, 1, 0])


class Refused(unittest.TestCase):
    def test_what_is_not_one_to_twelve(self):
        for n in (0, 13, 14, 4294967295):
            with self.subTest(n=n):
                self.assertEqual(ask(start(n)), [[-1]])

    def test_it_leaves_all_as_it_was(self):
        for n in (0, 13, 4294967295):
            with self.subTest(n=n):
                before = [start(4), clause(2, 3), clause(2, -3), mark(), clause(4, 1), decide(60, 1)]
                after = [learnt(), clause(-2, 4), decide(0), back(), clause(5), clause(4), decide(0), learnt()]
                plain = ask(*before, *after)
                refused = ask(*before, start(n), *after)
                self.assertEqual(refused[len(before)], [-1])
                self.assertEqual(refused[:len(before)] + refused[len(before) + 1:], plain)
