"""Lists with all eleven calls mixed: by hand, against the document's words written down once more, and with refusals."""

import random
import unittest

from keptclauses.search import answers
from tests.lines import (EIGHT, ask, back, came, clause, decide, forget, learnt, line, mark, order, shows, start,
                         steps)

GREATEST = 4294967295


class Words:
    """The document's words, call by call; slow and plain, and nothing in it comes from the package."""

    def __init__(self):
        self.start(3)

    def start(self, n):
        if not 1 <= n <= 12:
            return [-1]
        self.n, self.marks, self.number = n, 0, 0
        self.given, self.of = {}, {}  # by number: (height, literals); learnt ones have what they came of too
        self.in_order = list(range(1, n + 1))
        self.last = {}
        return [n]

    def refuse(self, literals):
        if any(not 1 <= abs(literal) <= self.n for literal in literals):
            return [-2]
        if any(-literal in literals for literal in literals):
            return [-1]
        return None

    def clause(self, *literals):
        refused = self.refuse(literals)
        if refused or len(self.given) - len(self.of) >= 50:
            return refused or [-5]
        self.number += 1
        self.given[self.number] = (self.marks, frozenset(literals))
        return [self.number]

    def mark(self):
        if self.marks == 8:
            return [-5]
        self.marks += 1
        return [self.marks]

    def back(self):
        if self.marks == 0:
            return [-7]
        self.marks -= 1
        self.keep([k for k in self.given if self.given[k][0] <= self.marks])
        return [len(self.given) - len(self.of), len(self.of)]

    def keep(self, numbers):
        self.given = {k: self.given[k] for k in numbers}
        self.of = {k: self.of[k] for k in numbers if k in self.of}

    def told(self, numbers):
        rows = [[k, self.given[k][0], len(self.given[k][1]), *sorted(self.given[k][1], key=abs)] for k in numbers]
        return [number for row in rows for number in row]

    def learnt(self):
        return [len(self.of), *self.told(sorted(self.of))]

    def shows(self):
        numbers = sorted(set(self.given) - set(self.of))
        return [self.marks, len(numbers), *self.told(numbers)]

    def came(self, k):
        return [len(self.of[k]), *self.of[k]] if k in self.of else [-3]

    def forget(self, k):
        gone = {number for number in self.of if len(self.given[number][1]) > k}
        self.keep([number for number in self.given if number not in gone])
        return [len(gone)]

    def order(self):
        return [self.n, *[k if self.last.get(k) else -k for k in self.in_order]]

    def steps(self, *literals):
        return self.refuse(literals) or [int(self.follow([(-a, 0, None) for a in set(literals)]) is not None)]

    def follow(self, trail):
        """Sets what follows, behind what is set; the number of the broken clause, or None."""
        while True:
            so = {literal for literal, level, by in trail}
            for k in sorted(self.given):
                free = [a for a in self.given[k][1] if -a not in so]
                if not so & self.given[k][1] and len(free) <= 1:
                    break
            else:
                return None
            if not free:
                return k
            trail.append((free[0], trail[-1][1] if trail else 0, k))

    def decide(self, most, *assumptions):
        if self.refuse(assumptions) == [-2]:
            return [-2]
        if most > 60:
            return [-1]
        trail, may_be = [], most
        while True:
            broken = self.follow(trail)
            self.last.update({abs(a): a > 0 for a, level, by in trail})
            level = trail[-1][1] if trail else 0
            if broken is not None:
                if level == 0 or may_be == 0:
                    return [0, 0] if level == 0 else [2]
                may_be -= 1
                trail = self.take_apart(trail, level, broken)
                continue
            so = [a for a, level, by in trail]
            left = [a for a in assumptions if a not in so]
            if left and -left[0] in so:
                at_fault = self.behind(trail, -left[0]) | {left[0]}
                told = [a for a in assumptions if a in at_fault]
                return [0, len(told), *told]
            left += [k if self.last.get(k) else -k for k in self.in_order if k not in so and -k not in so]
            if not left:
                return [1, self.n, *[int(k in so) for k in range(1, self.n + 1)]]
            trail.append((left[0], level + 1, None))

    def take_apart(self, trail, level, broken):
        levels = {-a: its for a, its, by in trail}
        out, numbers = set(self.given[broken][1]), [broken]

        def swap(among):
            a, by = [(-a, by) for a, its, by in trail if -a in among][-1]
            out.remove(a)
            out.update(self.given[by][1] - {-a})
            numbers.append(by)

        while len([a for a in out if levels[a] == level]) > 1:
            swap(out)
        while [a for a in out if levels[a] == 0]:
            swap([a for a in out if levels[a] == 0])
        variables = {abs(a) for k in numbers for a in self.given[k][1]}
        self.in_order.sort(key=lambda k: k not in variables)
        self.number += 1
        assert frozenset(out) not in [literals for height, literals in self.given.values()], "it is not new"
        self.given[self.number] = (max(self.given[k][0] for k in numbers), frozenset(out))
        self.of[self.number] = numbers
        to = max([levels[a] for a in out if levels[a] != level], default=0)
        return [setting for setting in trail if setting[1] <= to]

    def behind(self, trail, literal):
        its_level, by = [(its, by) for a, its, by in trail if a == literal][0]
        if its_level == 0:
            return set()
        if by is None:
            return {literal}
        return set().union(*[self.behind(trail, -a) for a in self.given[by][1] if a != literal])


NAMES = ["start", "clause", "mark", "back", "decide", "learnt", "came", "forget", "steps", "order", "shows"]


def by_the_words(words, call):
    handed = call[1:]
    if call[0] in (1, 8):
        handed = call[2:]
    elif call[0] == 4:
        handed = [call[1], *call[3:]]
    return getattr(words, NAMES[call[0]])(*handed)


def some_literals(rng, n, most):
    return [rng.choice((-1, 1)) * rng.randint(1, n) for _ in range(rng.randint(0, most))]


def some_clause(rng, n):
    size = min(n, rng.choice((2, 3, 3, 3, 3, 3, 3, 4) if rng.randint(0, 39) else (0, 1, 1, 1)))
    literals = [rng.choice((-1, 1)) * variable for variable in rng.sample(range(1, n + 1), size)]
    return clause(*literals, *literals[:rng.choice((0, 0, 0, 1))])


def some_refusal(rng, n):
    wrong = rng.choice((0, n + 1, -n - 1, -2147483648, 2147483647))
    either = rng.randint(1, n)
    return rng.choice((
        start(rng.choice((0, 13, GREATEST))), clause(1, wrong), clause(either, 1, -either), clause(1, -1, wrong),
        decide(rng.choice((0, 61)), wrong), decide(rng.choice((61, GREATEST)), 1, -1), steps(wrong, 1),
        steps(-either, either), steps(1, -1, wrong), came(0), came(GREATEST)))


def some_call(rng, words):
    """A call that comes in one of many ways; now and then one of a learnt clause that there is."""
    n = words.n
    return rng.choice((
        lambda: some_clause(rng, n), mark, back,
        lambda: decide(rng.choice((0, 1, 1, 2, 3)), *some_literals(rng, n, 1)),
        lambda: decide(60, *some_literals(rng, n, 1)), lambda: decide(60, *some_literals(rng, n, 4)), learnt,
        lambda: came(rng.choice(sorted(words.of) or [1])), lambda: came(rng.randint(1, words.number + 1)),
        lambda: forget(rng.randint(0, 4)), lambda: steps(*some_literals(rng, n, 3)), order, shows,
        lambda: some_refusal(rng, n)))()


def one_in_each(rows, columns):
    """Each of the rows has a column, no two the same: it can never be if there are fewer columns."""
    cell = [[row * columns + column + 1 for column in range(columns)] for row in range(rows)]
    apart = [[-cell[low][column], -cell[high][column]] for column in range(columns)
             for high in range(rows) for low in range(high)]
    return rows * columns, cell + apart


def odd_or_even(rng, n, sums):
    """Of some three variables an odd, or an even, number is so: four clauses each."""
    clauses = []
    for _ in range(sums):
        a, b, c = rng.sample(range(1, n + 1), 3)
        sign = rng.choice((-1, 1))
        clauses += [[sign * a, b, c], [sign * a, -b, -c], [-sign * a, b, -c], [-sign * a, -b, c]]
    return n, clauses


def some_hard_clauses(rng):
    n, clauses = rng.choice((
        lambda: one_in_each(3, 2), lambda: one_in_each(4, 3), lambda: one_in_each(4, 3), lambda: one_in_each(3, 3),
        lambda: odd_or_even(rng, 6, 5), lambda: odd_or_even(rng, 7, 7), lambda: odd_or_even(rng, 12, 6)))()
    new = rng.sample(range(1, n + 1), n)
    signs = [rng.choice((-1, 1)) for _ in range(n)]
    told = [clause(*[(1 if a > 0 else -1) * signs[abs(a) - 1] * new[abs(a) - 1] for a in literals])
            for literals in rng.sample(clauses, len(clauses) - rng.choice((0, 0, 0, 1)))]
    for _ in range(rng.randint(0, 3)):
        told.insert(rng.randint(0, len(told)), mark())
    return n, [*told, decide(rng.choice((1, 3, 60, 60)))]


def some_easy_clauses(rng):
    n = rng.choice((1, 2, 3, 4, 5, 5, 6, 6, 7, 12))
    how_many = min(rng.randint(3 * n, 5 * n), 26)
    return n, [some_clause(rng, n) if rng.randint(0, 9) else mark() for _ in range(how_many)]


def some_line(rng):
    """Up to 40 calls and their answers: clauses, then calls of every kind; now and then all is begun anew."""
    words = Words()
    calls, told = [], []
    length = rng.choice((1, 10, 40, 40, 40, 40, 40))
    waiting, others_left = [], rng.choice((0, 0, 0, 0, 0, 0, 10, 40))
    while len(calls) < length:
        if not waiting and not others_left:
            n, waiting = rng.choice((some_easy_clauses, some_hard_clauses, some_hard_clauses))(rng)
            waiting = [start(n), *waiting]
            others_left = rng.choice((6, 12, 40))
        if waiting:
            call = waiting.pop(0)
        else:
            others_left -= 1
            call = some_call(rng, words)
        calls.append(call)
        told.append(by_the_words(words, call))
    return calls, told


class AgainstTheWords(unittest.TestCase):
    lines = [some_line(random.Random(seed)) for seed in range(2000)]

    def test_many_lines(self):
        for calls, told in self.lines:
            with self.subTest(calls=calls):
                self.assertEqual(ask(*calls), told)

    def test_these_lines_have_all_in_them(self):
        kinds = {}
        for calls, told in self.lines:
            self.assertLessEqual(len(calls), 40)
            self.assertLessEqual(len(line(*calls)), 2600)
            for call, answer in zip(calls, told):
                kind = answer[0] if answer[0] < 0 or call[0] in (4, 8) else min(answer[0], 1)
                kinds[NAMES[call[0]], kind] = kinds.get((NAMES[call[0]], kind), 0) + 1
        for kind in (("start", -1), ("clause", -2), ("clause", -1), ("back", -7), ("decide", -2), ("decide", -1),
                     ("decide", 0), ("decide", 1), ("decide", 2), ("learnt", 1), ("came", -3), ("came", 1),
                     ("forget", 0), ("forget", 1), ("steps", -2), ("steps", -1), ("steps", 0), ("steps", 1),
                     ("order", 1), ("shows", 0), ("shows", 1)):
            self.assertGreater(kinds.get(kind, 0), 100, kind)


class ByHand(unittest.TestCase):
    def test_all_eleven_calls(self):
        # 4 (1); -1 (2), 2 by 1; 2 is broken: 3 = (1 -4) of 2 1, the order 1 2 4 3 5; 1 by 3; 2 as it was; -3; -5
        # 3 (1); 4 (2), 1 by 3, 5 by 4; 5 is broken: -5 goes out (4), -1 (3): 6 = (-4) of 5 4 3, of height 1,
        # the order 1 4 5 2 3; back to 0: -4 by 6; 3 (1), and 4 is not so; 3 is forgotten, 6 goes with its mark
        told = ask(start(5), clause(1, -4, 2), clause(-2, 1, -4), decide(0, 4), decide(1, 4), learnt(), mark(),
                   clause(-1, 5), clause(-5, -4, -1), steps(-4), decide(60, 3, 4), learnt(), came(3), came(6), order(),
                   shows(), forget(1), came(6), learnt(), steps(-4), back(), learnt(), shows(), decide(0, 4), order())
        self.assertEqual(told, [
            [5], [1], [2], [2], [1, 5, 1, 1, 0, 1, 0], [1, 3, 0, 2, 1, -4], [1],
            [4], [5], [1], [0, 1, 4], [2, 3, 0, 2, 1, -4, 6, 1, 1, -4], [2, 2, 1], [3, 5, 4, 3], [5, 1, -4, 5, 2, 3],
            [1, 4, 1, 0, 3, 1, 2, -4, 2, 0, 3, 1, -2, -4, 4, 1, 2, -1, 5, 5, 1, 3, -1, -4, -5],
            [1], [3, 5, 4, 3], [1, 6, 1, 1, -4], [1], [2, 0], [0], [0, 2, 1, 0, 3, 1, 2, -4, 2, 0, 3, 1, -2, -4],
            [1, 5, 1, 1, 1, 1, 1], [5, 1, 4, 5, 2, 3]])

    def test_several_starts_in_one_list(self):
        one = [start(3), *EIGHT, decide(60), learnt(), came(10), order(), shows(), forget(1)]
        two = [start(4), mark(), clause(3, 4), clause(3, -4), decide(60), learnt(), came(3), order(), shows(), back()]
        for calls in ([*one, *two], [*two, *one], [*two, *two, *two], [*one, *one], [*two, start(13), start(0), *one]):
            parts = [ask(*(one if call == start(3) else two)) for call in calls if call in (start(3), start(4))]
            told = [answer for answer, call in zip(ask(*calls), calls) if call not in (start(0), start(13))]
            self.assertEqual(told, [answer for part in parts for answer in part])


class Refusals(unittest.TestCase):
    after = [learnt(), shows(), order(), came(5), came(8), steps(4), steps(), clause(-4, -5), decide(1), order(),
             learnt(), back(), shows(), forget(1), mark(), clause(1), decide(60, 2, -2), learnt(), order()]
    wrong = [clause(2), clause(-3, -2), clause(3, 4, 5), clause(3, 4, -5), decide(60, -1)]

    def check(self, before, refused):
        told = ask(*before, *[call for call, answer in refused], *self.after)
        place = len(before)
        self.assertEqual(told[place:place + len(refused)], [[answer] for call, answer in refused])
        self.assertEqual(told[:place] + told[place + len(refused):], ask(*before, *self.after))

    def test_they_leave_all_as_it_was(self):
        refused = [(start(0), -1), (start(13), -1), (start(GREATEST), -1), (clause(0), -2), (clause(1, 6), -2),
                   (clause(2, -2), -1), (clause(2, -2, -6), -2), (decide(0, 0), -2), (decide(60, 1, -6), -2),
                   (decide(61), -1), (decide(GREATEST, 1, 2), -1), (decide(61, 6), -2), (steps(0), -2),
                   (steps(-6, 1), -2), (steps(1, -1), -1), (steps(6, 1, -1), -2), (came(0), -3), (came(1), -3),
                   (came(6), -3), (came(GREATEST), -3)]
        before = [start(5), mark(), *self.wrong]
        self.check(before, refused[:10])
        self.check(before, refused[10:])
        self.check([start(5), mark(), *self.wrong[:4]], refused[:12])
        for pair in refused:
            self.check(before, [pair, pair])

    def test_a_mark_too_many(self):
        self.check([start(5), *[mark()] * 8, *self.wrong], [(mark(), -5), (mark(), -5)])

    def test_back_without_a_mark(self):
        self.check([start(5), *self.wrong], [(back(), -7), (back(), -7)])

    def test_a_clause_too_many(self):
        # this list is longer than any that is handed in
        full = [start(5), mark(), *[clause(2)] * 46, *self.wrong]
        self.check(full, [(clause(1), -5), (clause(), -5), (clause(1, -1), -1), (clause(6), -2)])


class TheFunction(unittest.TestCase):
    lists = [line(*calls) for calls, told in AgainstTheWords.lines[:200]]

    def test_what_is_handed_in_stays_as_it_was(self):
        for calls in self.lists:
            copy = list(calls)
            answers(calls)
            self.assertEqual(calls, copy)

    def test_a_second_time_it_is_as_the_first_time(self):
        first = [answers(calls) for calls in self.lists]
        self.assertEqual([answers(calls) for calls in reversed(self.lists)], first[::-1])
