"""What stays from one call to the next: clauses, marks, the order, how variables were set last."""


class Clause:
    def __init__(self, number, height, literals, learnt):
        self.number = number
        self.height = height
        self.literals = literals
        self.learnt = learnt


# The clauses lie by their numbers from the least on, for each new one has the greatest number so far.
# How a variable was set last lies at its own place, so place 0 is idle.
class Store:
    def __init__(self, size):
        self.begin(size)

    def begin(self, size):
        self.size = size
        self.clauses = []
        self.marks = 0
        self.next_number = 1
        self.order = list(range(1, size + 1))
        self.last_so = [False] * (size + 1)


def add_clause(store, height, literals, learnt):
    number = store.next_number
    store.next_number += 1
    store.clauses.append(Clause(number, height, sorted(literals, key=abs), learnt))
    return number


def given_clauses(store):
    return [clause for clause in store.clauses if not clause.learnt]


def learnt_clauses(store):
    return [clause for clause in store.clauses if clause.learnt]


def drop_above(store, height):
    store.clauses = [clause for clause in store.clauses if clause.height <= height]


def bring_to_front(store, clauses):
    told = {}
    for clause in clauses:
        for literal in clause.literals:
            told[abs(literal)] = True
    front = [variable for variable in store.order if variable in told]
    store.order = front + [variable for variable in store.order if variable not in told]
