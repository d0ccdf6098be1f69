"""The search itself, from no settings to its answer."""

from keptclauses.learning import learn
from keptclauses.settings import Settings, begin_level, set_what_follows, value_of_literal


# Of level 0 nothing is at fault: what is set there stands without any assumption.
def assumptions_behind(settings, literal):
    behind = {}
    sought = {literal: True}
    for earlier in reversed(settings.trail):
        if earlier in sought and settings.level_of[abs(earlier)] > 0:
            clause = settings.clause_of[abs(earlier)]
            if clause is None:
                behind[earlier] = True
            else:
                for other in clause.literals:
                    sought[-other] = True
    return behind


def never_under(settings, failed, assumptions):
    at_fault = assumptions_behind(settings, -failed)
    at_fault[failed] = True
    told = [assumption for assumption in assumptions if assumption in at_fault]
    return [0, len(told)] + told


def it_fits(settings):
    size = settings.store.size
    return [1, size] + [1 if settings.value_of[variable] == 1 else 0 for variable in range(1, size + 1)]


# Gives back the answer if the search is at its end, else None.
def go_on(settings, assumptions):
    for assumption in assumptions:
        value = value_of_literal(settings, assumption)
        if value == -1:
            return never_under(settings, assumption, assumptions)
        if value == 0:
            begin_level(settings, assumption)
            return None
    for variable in settings.store.order:
        if settings.value_of[variable] == 0:
            begin_level(settings, variable if settings.last_so[variable] else -variable)
            return None
    return it_fits(settings)


def decide(store, most, assumptions):
    settings = Settings(store)
    learnt_here = 0
    found = None
    while found is None:
        broken = set_what_follows(settings)
        if broken is None:
            found = go_on(settings, assumptions)
        elif settings.level == 0:
            found = [0, 0]
        elif learnt_here == most:
            found = [2]
        else:
            learn(settings, broken)
            learnt_here += 1
    store.last_so = settings.last_so
    return found
