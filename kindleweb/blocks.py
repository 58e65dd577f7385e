"""Least cold blocks, and the papers that seeds do not light a whole web."""

from kindleweb.cold import cold_within, is_cold
from kindleweb.errors import TooMany
from kindleweb.webs import all_but, count_inside, hearths_in, made_set, marked, sets_among, without

MOST_SEARCHED = 12


def least_within(web, some):
    whole = cold_within(web, some)
    left = whole
    for hearth in whole:
        if hearth in left:
            smaller = cold_within(web, without(left, [hearth]))
            if smaller:
                left = smaller
    return left


def is_least(web, block):
    chosen = made_set(web, block)
    return len(chosen) > 0 and least_within(web, chosen) == chosen


def least_colds(web):
    chosen = searched_sets(web)
    holds = holding_cold(web, chosen)
    found = [some for place, some in enumerate(chosen) if holds[place] and not holds_without_one(holds, place, some)]
    return sorted(found)


def searched_sets(web):
    if hearths_in(web) > MOST_SEARCHED:
        raise TooMany("webs of at most 12 hearths are searched through")
    return sets_among(list(range(hearths_in(web))))


def holding_cold(web, chosen):
    holds = [False]
    for place in range(1, len(chosen)):
        holds.append(holds_without_one(holds, place, chosen[place]) or is_cold(web, chosen[place]))
    return holds


def holds_without_one(holds, place, some):
    # A set without one of its hearths stands earlier among all sets, so what it holds is known already.
    return any([holds[place - (1 << hearth)] for hearth in some])


def cold_paper(web, seeds):
    found = least_within(web, all_but(web, made_set(web, seeds)))
    if not found:
        return None
    return found


def judged_cold(web, seeds, block):
    lit = marked(made_set(web, seeds))
    chosen = made_set(web, block)
    return len(chosen) > 0 and count_inside(chosen, lit) == 0 and is_cold(web, chosen)
