"""Why each hearth burns, told as a paper that can be judged by itself."""

from kindleweb.errors import NoPaper
from kindleweb.spread import ranks_of
from kindleweb.webs import hearths_in, made_set, near_lists, rises

CAUSE_OF_SEED = (0, ())


def causes(web, seeds):
    ranks = ranks_of(web, seeds)
    around = near_lists(web)
    return [told_cause(web, around, ranks, hearth) for hearth in range(hearths_in(web))]


def told_cause(web, around, ranks, hearth):
    if hearth not in ranks:
        return None
    rank = ranks[hearth]
    if rank == 0:
        return CAUSE_OF_SEED
    # Sorted as pairs, the neighbours of lesser rounds stand first, within a round the lesser numbers.
    earlier = sorted([(ranks[other], other) for other in around[hearth] if ranks.get(other, rank) < rank])
    taken = earlier[:web[0][hearth]]
    return (rank, tuple(sorted([other for turn, other in taken])))


def judged_causes(web, seeds, told):
    lit = made_set(web, seeds)
    if len(told) != hearths_in(web):
        raise NoPaper("there are not as many causes as hearths")
    around = near_lists(web)
    for hearth in range(hearths_in(web)):
        if not is_right_cause(web[0][hearth], around[hearth], told, hearth in lit, told[hearth]):
            raise NoPaper("a cause is not right")
    return tuple([hearth for hearth, cause in enumerate(told) if cause is not None])


def is_right_cause(want, neighbours, told, is_seed, cause):
    if is_seed:
        return cause == CAUSE_OF_SEED
    if cause is None:
        return len([other for other in neighbours if told[other] is not None]) < want
    rank = cause[0]
    by = cause[1]
    if rank < 1 or len(by) != want or not rises(by):
        return False
    return all([other in neighbours and is_earlier(told[other], rank) for other in by])


def is_earlier(cause, rank):
    return cause is not None and cause[0] < rank
