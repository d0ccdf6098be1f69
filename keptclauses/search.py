"""Answers a line of calls on one set of clauses; `answers` is the way in."""

from keptclauses.deciding import decide
from keptclauses.settings import follows_by_steps
from keptclauses.store import Store, add_clause, drop_above, drop_learnt_longer_than, given_clauses, learnt_clauses

SIZE_AT_FIRST = 3
MOST_VARIABLES = 12
MOST_GIVEN = 50
MOST_MARKS = 8
MOST_TO_LEARN = 60


class UnknownCall(ValueError):
    pass


class Reader:
    def __init__(self, calls):
        self.calls = calls
        self.place = 0

    def has_more(self):
        return self.place < len(self.calls)

    def take_number(self):
        taken = self.calls[self.place]
        self.place += 1
        return taken

    def take_row(self):
        length = self.take_number()
        row = self.calls[self.place:self.place + length]
        self.place += length
        return row


def has_wrong_literal(store, literals):
    return any([literal == 0 or abs(literal) > store.size for literal in literals])


def is_told_both_ways(literals):
    return any([-literal in literals for literal in literals])


def each_once(literals):
    told = {}
    for literal in literals:
        told[literal] = True
    return list(told)


def answer_start(store, size):
    if size < 1 or size > MOST_VARIABLES:
        return [-1]
    store.begin(size)
    return [size]


def answer_clause(store, literals):
    if has_wrong_literal(store, literals):
        return [-2]
    if is_told_both_ways(literals):
        return [-1]
    if len(given_clauses(store)) >= MOST_GIVEN:
        return [-5]
    return [add_clause(store, store.marks, each_once(literals), [])]


def answer_mark(store):
    if store.marks >= MOST_MARKS:
        return [-5]
    store.marks += 1
    return [store.marks]


def answer_back(store):
    if store.marks == 0:
        return [-7]
    store.marks -= 1
    drop_above(store, store.marks)
    return [len(given_clauses(store)), len(learnt_clauses(store))]


def answer_decide(store, most, assumptions):
    if has_wrong_literal(store, assumptions):
        return [-2]
    if most > MOST_TO_LEARN:
        return [-1]
    return decide(store, most, assumptions)


def told_clauses(clauses):
    told = []
    for clause in clauses:
        told.extend([clause.number, clause.height, len(clause.literals)])
        told.extend(clause.literals)
    return told


def answer_learnt(store):
    clauses = learnt_clauses(store)
    return [len(clauses)] + told_clauses(clauses)


def answer_came(store, number):
    for clause in learnt_clauses(store):
        if clause.number == number:
            return [len(clause.came_of)] + clause.came_of
    return [-3]


def answer_forget(store, length):
    before = len(store.clauses)
    drop_learnt_longer_than(store, length)
    return [before - len(store.clauses)]


def answer_steps(store, literals):
    if has_wrong_literal(store, literals):
        return [-2]
    if is_told_both_ways(literals):
        return [-1]
    return [1 if follows_by_steps(store, each_once(literals)) else 0]


def answer_order(store):
    return [store.size] + [variable if store.last_so[variable] else -variable for variable in store.order]


def answer_shows(store):
    clauses = given_clauses(store)
    return [store.marks, len(clauses)] + told_clauses(clauses)


def answer_call(store, reader):
    call = reader.take_number()
    if call == 0:
        return answer_start(store, reader.take_number())
    if call == 1:
        return answer_clause(store, reader.take_row())
    if call == 2:
        return answer_mark(store)
    if call == 3:
        return answer_back(store)
    if call == 4:
        most = reader.take_number()
        return answer_decide(store, most, reader.take_row())
    if call == 5:
        return answer_learnt(store)
    if call == 6:
        return answer_came(store, reader.take_number())
    if call == 7:
        return answer_forget(store, reader.take_number())
    if call == 8:
        return answer_steps(store, reader.take_row())
    if call == 9:
        return answer_order(store)
    if call == 10:
        return answer_shows(store)
    raise UnknownCall("there is no call of this number")


def answers(calls):
    store = Store(SIZE_AT_FIRST)
    reader = Reader(calls)
    told = []
    while reader.has_more():
        answer = answer_call(store, reader)
        told.append(len(answer))
        told.extend(answer)
    return told
