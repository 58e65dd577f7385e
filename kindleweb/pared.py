"""What seeds cost, seeds of which none can be left out, and the papers that show it."""

from kindleweb.cold import cold_rest, is_cold
from kindleweb.errors import NoPaper, NoSuch
from kindleweb.prices import made_prices, price_sum
from kindleweb.spread import lights_all
from kindleweb.webs import count_inside, hearths_in, is_set, made_set, marked, without


def price_of(web, prices, seeds):
    known = made_prices(prices, hearths_in(web))
    return price_sum(known, made_set(web, seeds))


def lighting_seeds(web, seeds):
    chosen = made_set(web, seeds)
    if not lights_all(web, chosen):
        raise NoSuch("the seeds do not light the web")
    return chosen


def pared(web, seeds):
    chosen = lighting_seeds(web, seeds)
    left = chosen
    for seed in chosen:
        fewer = without(left, [seed])
        if lights_all(web, fewer):
            left = fewer
    return left


def own_paper(web, seeds):
    chosen = lighting_seeds(web, seeds)
    # What the other seeds leave cold has none of them, and has this one, since with it all burns.
    paper = tuple([cold_rest(web, without(chosen, [seed])) for seed in chosen])
    if () in paper:
        raise NoSuch("one of the seeds can be left out")
    return paper


def judged_own(web, seeds, paper):
    chosen = made_set(web, seeds)
    if len(paper) != len(chosen) or not lights_all(web, chosen):
        raise NoPaper("an own paper has a block for each of the seeds that light the web")
    inside = marked(chosen)
    for seed, block in zip(chosen, paper):
        if not is_own_block(web, inside, seed, block):
            raise NoPaper("an own block is a cold one with its seed and no other")
    return len(chosen)


def is_own_block(web, inside, seed, block):
    return is_set(web, block) and seed in block and count_inside(block, inside) == 1 and is_cold(web, block)
