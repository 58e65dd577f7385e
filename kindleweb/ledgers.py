"""Ledgers: what the boughs of a wood cost at least, and the cheapest seeds that light it."""

from kindleweb.errors import NoPaper
from kindleweb.prices import made_prices
from kindleweb.webs import hearths_in, near_lists
from kindleweb.woods import children_of, from_roots


def best_ledger(web, prices):
    pairs = from_roots(web)
    known = made_prices(prices, hearths_in(web))
    around = near_lists(web)
    ledger = [(0, 0)] * hearths_in(web)
    for hearth, elder in reversed(pairs):
        below = [ledger[child] for child in children_of(around, hearth, elder)]
        ledger[hearth] = most_pair(web[0][hearth], known[hearth], below)
    return tuple(ledger)


def most_pair(want, price, below):
    return (most_for(one_less(want), price, below), most_for(want, price, below))


def one_less(want):
    return max(0, want - 1)


def most_for(want, price, below):
    # Each child costs at least its a; the hearth burns for its price, or where so many children
    # burn without it, each of which costs its b instead.
    gaps = sorted([b - a for a, b in below])
    dearer = price
    if len(gaps) >= want:
        dearer = min(price, sum(gaps[:want]))
    return sum([a for a, b in below]) + dearer


def judged_ledger(web, prices, ledger):
    pairs = from_roots(web)
    known = made_prices(prices, hearths_in(web))
    if len(ledger) != hearths_in(web):
        raise NoPaper("a ledger has a pair for each hearth")
    around = near_lists(web)
    for hearth, elder in pairs:
        below = [ledger[child] for child in children_of(around, hearth, elder)]
        if not is_right_pair(ledger[hearth], most_pair(web[0][hearth], known[hearth], below)):
            raise NoPaper("a pair of the ledger is not right")
    return sum([ledger[hearth][1] for hearth, elder in pairs if elder is None])


def is_right_pair(told, most):
    # No a is above b and no b above what the price allows, so a may be held to the price, too.
    return 0 <= told[0] and told[0] <= told[1] and told[0] <= most[0] and told[1] <= most[1]


def wood_cheapest(web, prices):
    ledger = best_ledger(web, prices)
    around = near_lists(web)
    alone = {}
    seeds = []
    for hearth, elder in from_roots(web):
        want = web[0][hearth]
        if elder is not None and hearth not in alone:
            want = one_less(want)
        gaps = sorted([(ledger[child][1] - ledger[child][0], child) for child in children_of(around, hearth, elder)])
        if len(gaps) >= want and sum([gap for gap, child in gaps[:want]]) <= prices[hearth]:
            for gap, child in gaps[:want]:
                alone[child] = True
        else:
            seeds.append(hearth)
    return tuple(sorted(seeds))
