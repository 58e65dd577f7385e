"""Which hearths must kindle ahead of others, and orders that show where one need not."""

from kindleweb.errors import NoSuch
from kindleweb.orders import first_order
from kindleweb.spread import burnt
from kindleweb.webs import hearths_in, is_hearth, made_set, marked, without


def burnt_without(web, seeds, hearth):
    chosen = made_set(web, seeds)
    if not is_hearth(web, hearth) or hearth in chosen:
        raise NoSuch("this is no hearth that could kindle")
    return burnt(never_kindling(web, hearth), chosen)


def never_kindling(web, hearth):
    # No hearth has as many neighbours as there are hearths in the web.
    wants = list(web[0])
    wants[hearth] = hearths_in(web)
    return (tuple(wants), web[1])


def kindled_hearths(web, seeds):
    return without(burnt(web, seeds), seeds)


def musts(web, seeds):
    later = kindled_hearths(web, seeds)
    pairs = []
    for one in later:
        still = marked(burnt_without(web, seeds, one))
        pairs.extend([(one, other) for other in later if other != one and other not in still])
    return pairs


def order_with(web, seeds, one, other):
    later = kindled_hearths(web, seeds)
    if one not in later or other not in later or one == other:
        raise NoSuch("these are no two hearths that kindle")
    ahead = first_order(never_kindling(web, other), seeds)
    if one not in ahead:
        return None
    row = ahead + (other,)
    return row + first_order(web, sorted(tuple(seeds) + row))


def last_place(web, seeds, hearth):
    if hearth not in kindled_hearths(web, seeds):
        raise NoSuch("this is no hearth that kindles")
    return len(burnt_without(web, seeds, hearth)) - len(seeds)
