"""Cold blocks: hearths that never kindle by what burns outside of them."""

from kindleweb.spread import burnt
from kindleweb.webs import all_but, count_outside, made_set, marked, near_lists, without


def is_cold(web, block):
    chosen = made_set(web, block)
    return staying(web, near_lists(web), chosen) == chosen


def cold_within(web, some):
    around = near_lists(web)
    left = made_set(web, some)
    kept = staying(web, around, left)
    while kept != left:
        left = kept
        kept = staying(web, around, left)
    return left


def staying(web, around, block):
    inside = marked(block)
    return tuple([hearth for hearth in block if count_outside(around[hearth], inside) < web[0][hearth]])


def cold_rest(web, seeds):
    return all_but(web, burnt(web, seeds))


def cold_pieces(web, block):
    around = near_lists(web)
    left = made_set(web, block)
    pieces = []
    while left:
        piece = first_piece(around, left)
        pieces.append(piece)
        left = without(left, piece)
    return pieces


def first_piece(around, hearths):
    inside = marked(hearths)
    reached = {hearths[0]: True}
    waiting = [hearths[0]]
    while waiting:
        hearth = waiting.pop()
        for other in around[hearth]:
            if other in inside and other not in reached:
                reached[other] = True
                waiting.append(other)
    return tuple(sorted(reached))
