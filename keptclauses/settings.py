"""The settings of one search, level by level, and what follows from them."""


# What is known of a variable lies at its own place, so place 0 is idle;
# a value is 1 (so), -1 (not so) or 0 (neither). How variables were set last is a copy of the store's,
# for it stays behind a search alone: whether a clause follows by steps is asked without leaving anything.
class Settings:
    def __init__(self, store):
        self.store = store
        self.level = 0
        self.trail = []
        self.value_of = [0] * (store.size + 1)
        self.level_of = [0] * (store.size + 1)
        self.clause_of = [None] * (store.size + 1)
        self.last_so = list(store.last_so)


def value_of_literal(settings, literal):
    value = settings.value_of[abs(literal)]
    return value if literal > 0 else -value


def set_literal(settings, literal, clause):
    variable = abs(literal)
    settings.value_of[variable] = 1 if literal > 0 else -1
    settings.level_of[variable] = settings.level
    settings.clause_of[variable] = clause
    settings.trail.append(literal)
    settings.last_so[variable] = literal > 0


def begin_level(settings, literal):
    settings.level += 1
    set_literal(settings, literal, None)


# The trail's levels never fall from its beginning to its end, so what is to be undone lies at the end.
def undo_above(settings, level):
    while len(settings.trail) > 0 and settings.level_of[abs(settings.trail[-1])] > level:
        literal = settings.trail.pop()
        settings.value_of[abs(literal)] = 0
    settings.level = level


def free_literals(settings, clause):
    return [literal for literal in clause.literals if value_of_literal(settings, literal) == 0]


def must_be_looked_at(settings, clause):
    free = 0
    for literal in clause.literals:
        value = value_of_literal(settings, literal)
        if value == 1:
            return False
        if value == 0:
            free += 1
    return free <= 1


def first_to_look_at(settings):
    for clause in settings.store.clauses:
        if must_be_looked_at(settings, clause):
            return clause
    return None


# Gives back the broken clause, or None if there is an end of what follows.
def set_what_follows(settings):
    clause = first_to_look_at(settings)
    while clause is not None:
        free = free_literals(settings, clause)
        if len(free) == 0:
            return clause
        set_literal(settings, free[0], clause)
        clause = first_to_look_at(settings)
    return None


def follows_by_steps(store, literals):
    settings = Settings(store)
    for literal in literals:
        set_literal(settings, -literal, None)
    return set_what_follows(settings) is not None
