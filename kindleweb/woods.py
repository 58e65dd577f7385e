"""Woods: webs without rounds, with the fewest seeds that light them and a paper that none are fewer."""

from kindleweb.cold import cold_pieces, is_cold
from kindleweb.errors import NoPaper, NotWood
from kindleweb.spread import lights_all
from kindleweb.webs import all_but, count_inside, hearths_in, is_set, marked, near_lists


def is_wood(web):
    # A piece hangs together by one link less than it has hearths; each link more closes a round.
    return len(web[1]) == hearths_in(web) - len(all_pieces(web))


def all_pieces(web):
    return cold_pieces(web, all_but(web, ()))


def from_roots(web):
    # Pairs of a hearth and its elder, None for a root; each elder stands ahead of its children.
    if not is_wood(web):
        raise NotWood("the web has a round")
    around = near_lists(web)
    pairs = [(piece[0], None) for piece in all_pieces(web)]
    turn = 0
    while turn < len(pairs):
        hearth = pairs[turn][0]
        pairs.extend([(child, hearth) for child in children_of(around, hearth, pairs[turn][1])])
        turn = turn + 1
    return pairs


def children_of(around, hearth, elder):
    return [other for other in around[hearth] if other != elder]


def elders_of(web):
    elders = [None] * hearths_in(web)
    for hearth, elder in from_roots(web):
        elders[hearth] = elder
    return elders


def apart_paper(web):
    # A hearth that its children do not light waits for its elder where that one is enough; else
    # it is a seed. Its block are it and all those below that wait, straight or by one another, for it.
    around = near_lists(web)
    waiting = {}
    taken = []
    for hearth, elder in reversed(from_roots(web)):
        children = children_of(around, hearth, elder)
        lacking = web[0][hearth] - len([child for child in children if child not in waiting])
        block = [hearth]
        for child in children:
            block.extend(waiting.get(child, []))
        if lacking == 1 and elder is not None:
            waiting[hearth] = block
        elif lacking > 0:
            taken.append((hearth, tuple(sorted(block))))
    pairs = sorted(taken)
    return (tuple([seed for seed, block in pairs]), tuple([block for seed, block in pairs]))


def judged_apart(web, paper):
    seeds = paper[0]
    blocks = paper[1]
    if not is_set(web, seeds) or not lights_all(web, seeds):
        raise NoPaper("the seeds do not light the web")
    if len(blocks) != len(seeds) or not stand_apart(web, blocks):
        raise NoPaper("there are not as many cold blocks that stand apart as seeds")
    return len(seeds)


def stand_apart(web, blocks):
    met = {}
    for block in blocks:
        if len(block) == 0 or not is_set(web, block) or not is_cold(web, block) or count_inside(block, met) > 0:
            return False
        met.update(marked(block))
    return True
