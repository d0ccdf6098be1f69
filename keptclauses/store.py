"""What stays from one call to the next: clauses, marks, the order, how variables were set last."""


# A learnt clause came of one clause at least, a given one of none; those it came of may be gone,
# so it keeps their numbers.
class Clause:
    def __init__(self, number, height, literals, came_of):
        self.number = number
        self.height = height
        self.literals = literals
        self.came_of = came_of

    def is_learnt(self):
        return len(self.came_of) > 0


# The clauses lie by their numbers from the least on, for each new one has the greatest number so far.
# How a variable was set last lies at its own place, so place 0 is idle.
class Store:
    def __init__(self, size):
        self.begin(size)

    def begin(self, size):
        self.size = size
        self.clauses = []
        self.marks = 0
        self.next_number = 1
        self.order = list(range(1, size + 1))
        self.last_so = [False] * (size + 1)


def add_clause(store, height, literals, came_of):
    number = store.next_number
    store.next_number += 1
    store.clauses.append(Clause(number, height, sorted(literals, key=abs), came_of))
    return number


def given_clauses(store):
    return [clause for clause in store.clauses if not clause.is_learnt()]


def learnt_clauses(store):
    return [clause for clause in store.clauses if clause.is_learnt()]


def drop_above(store, height):
    store.clauses = [clause for clause in store.clauses if clause.height <= height]


def drop_learnt_longer_than(store, length):
    store.clauses = [clause for clause in store.clauses if not clause.is_learnt() or len(clause.literals) <= length]


def bring_to_front(store, clauses):
    told = {}
    for clause in clauses:
        for literal in clause.literals:
            told[abs(literal)] = True
    front = [variable for variable in store.order if variable in told]
    store.order = front + [variable for variable in store.order if variable not in told]
