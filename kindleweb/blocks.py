"""Least cold blocks, and the papers that seeds do not light a whole web."""

from kindleweb.cold import cold_within, is_cold
from kindleweb.errors import TooMany
from kindleweb.webs import all_but, count_inside, hearths_in, made_set, marked

MOST_SEARCHED = 12


def least_within(web, some):
    whole = cold_within(web, some)
    left = whole
    for hearth in whole:
        if hearth in left:
            smaller = cold_within(web, [other for other in left if other != hearth])
            if smaller:
                left = smaller
    return left


def is_least(web, block):
    chosen = made_set(web, block)
    return len(chosen) > 0 and least_within(web, chosen) == chosen


def least_colds(web):
    if hearths_in(web) > MOST_SEARCHED:
        raise TooMany("least cold blocks are searched in webs of at most 12 hearths")
    chosen = all_sets(web)
    holds_cold = [False]
    found = []
    for place in range(1, len(chosen)):
        # A set without one of its hearths stands earlier in the list, so it is known already.
        holds_less = any([holds_cold[place - (1 << hearth)] for hearth in chosen[place]])
        least = not holds_less and is_cold(web, chosen[place])
        if least:
            found.append(chosen[place])
        holds_cold.append(holds_less or least)
    return sorted(found)


def all_sets(web):
    # Each hearth doubles the list, so a set's place is the sum of 1 << hearth over its hearths.
    chosen = [()]
    for hearth in range(hearths_in(web)):
        chosen = chosen + [some + (hearth,) for some in chosen]
    return chosen


def cold_paper(web, seeds):
    found = least_within(web, all_but(web, made_set(web, seeds)))
    if not found:
        return None
    return found


def judged_cold(web, seeds, block):
    lit = marked(made_set(web, seeds))
    chosen = made_set(web, block)
    return len(chosen) > 0 and count_inside(chosen, lit) == 0 and is_cold(web, chosen)
