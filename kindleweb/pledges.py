"""Pledges: weights on links, and what no seeds can pass by them."""

from kindleweb.errors import NoSuch, TooMany
from kindleweb.prices import made_prices
from kindleweb.spread import ranks_of
from kindleweb.webs import count_inside, hearths_in, made_set, marked

MOST_LINKS_TRIED = 8


def weighted_lists(web, weights):
    # For each hearth its neighbours, each with the weight of the link to it.
    known = made_prices(weights, len(web[1]))
    around = [[] for want in web[0]]
    for link, weight in zip(web[1], known):
        around[link[0]].append((link[1], weight))
        around[link[1]].append((link[0], weight))
    return around


def dues(web, weights):
    return [due_of(want, beside) for want, beside in zip(web[0], weighted_lists(web, weights))]


def due_of(want, beside):
    if want > len(beside):
        return None
    return sum(sorted([weight for other, weight in beside])[:want])


def takings(web, weights, seeds):
    around = weighted_lists(web, weights)
    ranks = ranks_of(web, seeds)
    return [taken_by(hearth, beside, ranks) for hearth, beside in enumerate(around)]


def taken_by(hearth, beside, ranks):
    # No neighbour burned ahead of a seed, so a seed takes nothing.
    if hearth not in ranks:
        return None
    rank = ranks[hearth]
    return sum([weight for other, weight in beside if ranks.get(other, rank) < rank])


def is_within(web, weights, seeds):
    told = dues(web, weights)
    inside = marked(made_set(web, seeds))
    others = [due for hearth, due in enumerate(told) if hearth not in inside]
    if None in others:
        return False
    return sum(others) <= sum([weight for link, weight in zip(web[1], weights) if count_inside(link, inside) < 2])


def pledge_bound(web, weights):
    return hearths_in(web) - borne_many(web, weights)


def borne_many(web, weights):
    # How many dues at most come to no more than all weights: the least ones.
    known = sorted([due for due in dues(web, weights) if due is not None])
    many = 0
    left = sum(weights)
    for due in known:
        left = left - due
        if left >= 0:
            many = many + 1
    return many


def pledge_reach(web, weights, many):
    borne = borne_many(web, weights)
    if many < 0 or many > hearths_in(web):
        raise NoSuch("there are not so many hearths")
    return min(hearths_in(web), many + borne)


def best_plain(web):
    if len(web[1]) > MOST_LINKS_TRIED:
        raise TooMany("webs of at most 8 links are tried through")
    rows = [()]
    for link in web[1]:
        rows = [(0,) + row for row in rows] + [(1,) + row for row in rows]
    # The rows ascend, so the first one with the greatest bound is the least one.
    bounds = [pledge_bound(web, row) for row in rows]
    return list(rows[bounds.index(max(bounds))])
