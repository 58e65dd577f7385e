"""What burns in the end, round by round or one by one."""

from kindleweb.errors import BadOrder
from kindleweb.webs import count_inside, has_each_once, hearths_in, made_set, marked, near_lists


def rounds(web, seeds):
    told = [made_set(web, seeds)]
    burning = marked(told[0])
    around = near_lists(web)
    lit = kindling(web, around, burning)
    while lit:
        told.append(lit)
        burning.update(marked(lit))
        lit = kindling(web, around, burning)
    return told


def kindling(web, around, burning):
    return tuple([hearth for hearth in range(hearths_in(web)) if can_kindle(web, around, burning, hearth)])


def can_kindle(web, around, burning, hearth):
    return hearth not in burning and count_inside(around[hearth], burning) >= web[0][hearth]


def ranks_of(web, seeds):
    ranks = {}
    for rank, lit in enumerate(rounds(web, seeds)):
        for hearth in lit:
            ranks[hearth] = rank
    return ranks


def burnt(web, seeds):
    return tuple(sorted(ranks_of(web, seeds)))


def lights_all(web, seeds):
    return len(burnt(web, seeds)) == hearths_in(web)


def kindled_by(web, seeds, order):
    burning = marked(made_set(web, seeds))
    if not has_each_once(web, order):
        raise BadOrder("each hearth stands in an order once")
    around = near_lists(web)
    kindled = []
    hearth = first_to_kindle(web, around, burning, order)
    while hearth is not None:
        kindled.append(hearth)
        burning[hearth] = True
        hearth = first_to_kindle(web, around, burning, order)
    return kindled


def first_to_kindle(web, around, burning, order):
    for hearth in order:
        if can_kindle(web, around, burning, hearth):
            return hearth
    return None
