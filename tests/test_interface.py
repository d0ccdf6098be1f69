import contextlib
import io
import sys
import unittest

from keptclauses.search import answers
from tests.lines import (EIGHT, ask, back, came, clause, decide, forget, learnt, line, mark, order, shows, start,
                         steps)


class Form(unittest.TestCase):
    def test_each_answer_lies_behind_how_many_numbers_it_has(self):
        calls = [0, 4, 1, 2, 2, -1, 2, 4, 60, 1, 1, 3, 5, 0, 13]
        #  start 4 | clause 1 | mark 1 | decide fits: 1 1 0 0 | back | learnt | start refused
        self.assertEqual(answers(calls), [1, 4, 1, 1, 1, 1, 6, 1, 4, 1, 1, 0, 0, 2, 1, 0, 1, 0, 1, -1])

    def test_one_call_alone(self):
        self.assertEqual(answers([5]), [1, 0])
        self.assertEqual(answers([2]), [1, 1])
        self.assertEqual(answers([3]), [1, -7])
        self.assertEqual(answers([0, 1]), [1, 1])
        self.assertEqual(answers([1, 0]), [1, 1])
        self.assertEqual(answers([4, 0, 0]), [5, 1, 3, 0, 0, 0])
        self.assertEqual(answers([6, 1]), [1, -3])
        self.assertEqual(answers([7, 0]), [1, 0])
        self.assertEqual(answers([8, 0]), [1, 0])
        self.assertEqual(answers([9]), [4, 3, -1, -2, -3])
        self.assertEqual(answers([10]), [2, 0, 0])

    def test_the_calls_from_came_to_shows(self):
        calls = [1, 2, 1, 2, 1, 2, 1, -2, 4, 60, 0, 6, 3, 8, 1, 1, 9, 7, 0, 8, 2, 3, 2, 10]
        #  clause 1 | clause 2 | decide fits: 1 1 0 | came of 2 1 | steps 1 | order | forget 1 | steps 0 | shows
        self.assertEqual(answers(calls), [1, 1, 1, 2, 5, 1, 3, 1, 1, 0, 3, 2, 2, 1, 1, 1, 4, 3, 1, 2, -3, 1, 1, 1, 0,
                                          12, 0, 2, 1, 0, 2, 1, 2, 2, 0, 2, 1, -2])

    def test_rows_of_sixty(self):
        self.assertEqual(ask(clause(*[2, -3] * 30), decide(0, *[-2] * 60)), [[1], [1, 3, 0, 0, 0]])
        self.assertEqual(ask(clause(2, -3), steps(*[-3, 2] * 30), steps(*[3] * 60), order())[1:],
                         [[1], [0], [3, -1, -2, -3]])

    def test_a_refusal_is_its_number_alone(self):
        self.assertEqual(answers([0, 0, 1, 1, 0, 3, 4, 61, 0, 6, 9, 8, 2, 1, -1, 8, 1, 4]),
                         [1, -1, 1, -2, 1, -7, 1, -1, 1, -3, 1, -1, 1, -2])

    def test_forty_calls(self):
        self.assertEqual(ask(*[start(2)] * 39, learnt()), [[2]] * 39 + [[0]])


class Beginning(unittest.TestCase):
    def test_three_variables(self):
        self.assertEqual(ask(clause(3), clause(4), decide(0)), [[1], [-2], [1, 3, 0, 0, 1]])

    def test_no_clause_and_no_mark(self):
        self.assertEqual(ask(learnt(), back(), mark(), back()), [[0], [-7], [1], [0, 0]])

    def test_the_order_is_one_two_three(self):
        # of (1 2), (1 3) and (2 3) what comes first in the order is not so, and the other follows
        self.assertEqual(ask(clause(1, 2), decide(0))[-1], [1, 3, 0, 1, 0])
        self.assertEqual(ask(clause(1, 3), decide(0))[-1], [1, 3, 0, 0, 1])
        self.assertEqual(ask(clause(2, 3), decide(0))[-1], [1, 3, 0, 0, 1])


class NothingElse(unittest.TestCase):
    calls = line(start(3), mark(), *EIGHT, clause(2, 2, -1), decide(60, 3, 3), learnt(), came(12), steps(-1, 3),
                 order(), shows(), forget(1), back())

    def test_what_is_handed_in_stays_as_it_is(self):
        class Watched(list):
            def refuse(self, *parts):
                raise AssertionError("the list that was handed in is changed")

            append = extend = insert = pop = remove = clear = sort = reverse = refuse
            __setitem__ = __delitem__ = __iadd__ = __imul__ = refuse

        handed = Watched(self.calls)
        answers(handed)
        self.assertEqual(list(handed), self.calls)

    def test_nothing_is_kept_from_one_time_to_the_next(self):
        first = answers(list(self.calls))
        answers(line(start(12), mark(), clause(12), decide(60, 1, 2)))
        self.assertEqual(answers(list(self.calls)), first)
        self.assertEqual(answers([5, 3]), [1, 0, 1, -7])

    def test_what_is_given_back_is_its_own(self):
        first = answers(list(self.calls))
        copy = list(first)
        first.clear()
        self.assertEqual(answers(list(self.calls)), copy)

    def test_whole_numbers_in_a_list(self):
        told = answers(list(self.calls))
        self.assertIs(type(told), list)
        self.assertEqual({type(number) for number in told}, {int})

    def test_it_prints_reads_and_imports_nothing(self):
        modules = set(sys.modules)
        out = io.StringIO()
        with contextlib.redirect_stdout(out), contextlib.redirect_stderr(out):
            answers(list(self.calls))
        self.assertEqual(out.getvalue(), "")
        self.assertEqual(set(sys.modules), modules)
