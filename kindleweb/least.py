"""The fewest and the cheapest seeds that light a small web, by going through all sets."""

from kindleweb.blocks import holding_cold, least_colds, searched_sets
from kindleweb.errors import NoSuch
from kindleweb.prices import made_prices, price_sum
from kindleweb.webs import count_outside, hearths_in, made_set, marked, without


def least_many(web):
    return min([len(seeds) for seeds in lighting_sets(web)])


def lighting_sets(web):
    chosen = searched_sets(web)
    holds = holding_cold(web, chosen)
    # The places of a set and of all hearths but these come to the last place, and seeds light
    # the web just where all but they hold no cold block.
    last = len(chosen) - 1
    return [seeds for place, seeds in enumerate(chosen) if not holds[last - place]]


def all_least(web):
    lighting = lighting_sets(web)
    fewest = min([len(seeds) for seeds in lighting])
    return sorted([seeds for seeds in lighting if len(seeds) == fewest])


def least_count(web):
    return len(all_least(web))


def least_numbered(web, number):
    told = all_least(web)
    if number < 0 or number >= len(told):
        raise NoSuch("no least seeds have this number")
    return told[number]


def number_of_least(web, seeds):
    told = all_least(web)
    chosen = made_set(web, seeds)
    if chosen not in told:
        raise NoSuch("these are no least seeds")
    return told.index(chosen)


def cheapest(web, prices):
    lighting = lighting_sets(web)
    known = made_prices(prices, hearths_in(web))
    best = min([(price_sum(known, seeds), seeds) for seeds in lighting])
    return best[1]


def blocks_apart(web):
    # Each cold block has a least one within, so the most least ones that stand apart are the most of all.
    blocks = least_colds(web)
    most = {tuple(range(hearths_in(web))): []}
    for hearth in range(hearths_in(web)):
        most = passed_on(most, hearth, [block for block in blocks if block[0] == hearth])
    return most[()]


def passed_on(most, hearth, blocks):
    # Under each set of hearths that are still free stand the most blocks that leave them free. The
    # hearth goes out of these sets, alone or with a block of which it is the least one.
    later = {}
    for free in most:
        inside = marked(free)
        keep_longer(later, without(free, [hearth]), most[free])
        for block in blocks:
            if count_outside(block, inside) == 0:
                keep_longer(later, without(free, block), most[free] + [block])
    return later


def keep_longer(most, free, blocks):
    if free not in most or len(blocks) > len(most[free]):
        most[free] = blocks
