"""The orders in which hearths can kindle one by one, counted and numbered."""

from kindleweb.errors import BadOrder, NoSuch, TooMany
from kindleweb.spread import burnt, can_kindle, kindled_by
from kindleweb.webs import hearths_in, is_hearth, made_set, marked, near_lists, sets_among

MOST_ORDERED = 12


def is_row(web, seeds, row):
    burning = marked(made_set(web, seeds))
    around = near_lists(web)
    for hearth in row:
        if not is_hearth(web, hearth) or not can_kindle(web, around, burning, hearth):
            return False
        burning[hearth] = True
    return True


def is_order(web, seeds, row):
    # No row has a hearth that stays cold, so one of as many hearths as kindle has all of them.
    return is_row(web, seeds, row) and len(seeds) + len(row) == len(burnt(web, seeds))


def first_order(web, seeds):
    return tuple(kindled_by(web, seeds, list(range(hearths_in(web)))))


def order_many(web, seeds):
    return ways_on(branches_of(web, seeds)[()])


def branches_of(web, seeds):
    # Under each set of hearths that kindled stand those that can kindle next, each with
    # the count of orders that go on with it. Greater sets come first: the lesser draw on them.
    later = sorted(first_order(web, seeds))
    if len(later) > MOST_ORDERED:
        raise TooMany("orders of more than 12 hearths are not counted")
    around = near_lists(web)
    branches = {}
    for lit in reversed(sets_among(later)):
        burning = marked(tuple(seeds) + lit)
        able = [hearth for hearth in later if can_kindle(web, around, burning, hearth)]
        branches[lit] = [(hearth, ways_on(branches[set_of(lit + (hearth,))])) for hearth in able]
    return branches


def ways_on(choices):
    # Where nothing is left to kindle there is still one way to go on: to end.
    if not choices:
        return 1
    return sum([many for hearth, many in choices])


def set_of(row):
    return tuple(sorted(row))


def order_numbered(web, seeds, number):
    branches = branches_of(web, seeds)
    if number < 0 or number >= ways_on(branches[()]):
        raise NoSuch("no order has this number")
    order = ()
    left = number
    while branches[set_of(order)]:
        for hearth, many in branches[set_of(order)]:
            if left < many:
                order = order + (hearth,)
                break
            left = left - many
    return order


def number_of_order(web, seeds, row):
    branches = branches_of(web, seeds)
    if not is_order(web, seeds, row):
        raise BadOrder("this is no order for the seeds")
    number = 0
    for turn, hearth in enumerate(row):
        lesser = [many for other, many in branches[set_of(row[:turn])] if other < hearth]
        number = number + sum(lesser)
    return number
