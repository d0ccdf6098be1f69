"""Takes a broken clause apart, learns what it comes to, and goes back."""

from keptclauses.settings import undo_above
from keptclauses.store import add_clause, bring_to_front


def literals_at(settings, literals, level):
    return [literal for literal in literals if settings.level_of[abs(literal)] == level]


def last_set(settings, literals):
    for literal in reversed(settings.trail):
        if -literal in literals:
            return -literal
    return None


# Changes kept, a dict of literals that are all not so; gives back the clause that set the one that goes out.
def swap_out(settings, kept, literal):
    clause = settings.clause_of[abs(literal)]
    kept.pop(literal)
    for other in clause.literals:
        if other != -literal:
            kept[other] = True
    return clause


# While several are of the present level, the one of all that was set last is among them:
# so it is sought at that level alone, as it is at level 0.
def swap_out_at(settings, kept, level, may_stay):
    came = []
    here = literals_at(settings, kept, level)
    while len(here) > may_stay:
        came.append(swap_out(settings, kept, last_set(settings, here)))
        here = literals_at(settings, kept, level)
    return came


def level_to_go_back_to(settings, literals):
    levels = [settings.level_of[abs(literal)] for literal in literals]
    return max([level for level in levels if level < settings.level], default=0)


def learn(settings, broken):
    kept = {}
    for literal in broken.literals:
        kept[literal] = True
    came = [broken]
    came.extend(swap_out_at(settings, kept, settings.level, 1))
    came.extend(swap_out_at(settings, kept, 0, 0))
    literals = list(kept)
    height = max([clause.height for clause in came])
    add_clause(settings.store, height, literals, [clause.number for clause in came])
    bring_to_front(settings.store, came)
    undo_above(settings, level_to_go_back_to(settings, literals))
