"""Writes calls as the numbers that are handed in, and takes the answers apart call by call."""

from keptclauses.search import answers


def start(n):
    return [0, n]


def clause(*literals):
    return [1, len(literals), *literals]


def mark():
    return [2]


def back():
    return [3]


def decide(most, *assumptions):
    return [4, most, len(assumptions), *assumptions]


def learnt():
    return [5]


def came(k):
    return [6, k]


def forget(k):
    return [7, k]


def steps(*literals):
    return [8, len(literals), *literals]


def order():
    return [9]


def shows():
    return [10]


def line(*calls):
    return [number for call in calls for number in call]


def ask(*calls):
    """The answers to these calls on a new set of clauses, one list for each call."""
    told = answers(line(*calls))
    apart = []
    place = 0
    while place < len(told):
        end = place + 1 + told[place]
        apart.append(told[place + 1:end])
        place = end
    assert place == len(told) and len(apart) == len(calls), (calls, told)
    return apart


def ask_last(*calls):
    return ask(*calls)[-1]


# All eight clauses over 1, 2 and 3: no values make them hold. DOC.md, by hand, with no assumption:
# -1 (level 1), -2 (2), 3 by 1; 2 is broken: 9 = (1 2), of 2 1; back to 1.
# 2 by 9, 3 by 3; 4 is broken: 10 = (1), of 4 3 9; back to 0.
# 1 by 10 (level 0); 2 as it was last (level 1), 3 by 7; 8 is broken: 11 = (-2), of 8 7 10; back to 0.
# -2 by 11, 3 by 5; 6 is broken at level 0.
EIGHT = [
    clause(1, 2, 3),
    clause(1, 2, -3),
    clause(1, -2, 3),
    clause(1, -2, -3),
    clause(-1, 2, 3),
    clause(-1, 2, -3),
    clause(-1, -2, 3),
    clause(-1, -2, -3),
]
