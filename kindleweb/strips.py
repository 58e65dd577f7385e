"""Strips: slices of one or two hearths in a row, and all the seeds that light them, counted."""

from kindleweb.errors import BadBoard, TooMany
from kindleweb.webs import MOST_HEARTHS, made_web

MOST_WIDE = 2
MOST_WANTED_ON_STRIPS = 6
MOST_COUNTED = 300
MOST_COUNTED_BY_SEEDS = 60


def looked_through(wants, length):
    if len(wants) < 1 or len(wants) > MOST_WIDE or min(wants) < 0 or max(wants) > MOST_WANTED_ON_STRIPS:
        raise BadBoard("a slice has one or two wants from 0 to 6")
    if length < 0:
        raise BadBoard("no length is below 0")


def held_to(length, most):
    if length > most:
        raise TooMany("the strip is too long")


def strip_web(wants, length):
    looked_through(wants, length)
    width = len(wants)
    held_to(length, MOST_HEARTHS // width)
    many = width * length
    across = [(hearth, hearth + 1) for hearth in range(many) if (hearth + 1) % width > 0]
    along = [(hearth, hearth + width) for hearth in range(many - width)]
    return made_web(list(wants) * length, across + along)


def strip_count(wants, length):
    looked_through(wants, length)
    held_to(length, MOST_COUNTED)
    return gone_through(wants, length, 1, lambda many, seeds: many, lambda one, other: one + other)


def strip_counts(wants, length):
    looked_through(wants, length)
    held_to(length, MOST_COUNTED_BY_SEEDS)
    width = len(wants)
    return gone_through(wants, length, [1], lambda row, seeds: moved_row(row, count_in(seeds), width), sums_of)


def moved_row(row, places, width):
    return [0] * places + row + [0] * (width - places)


def sums_of(row, other):
    return [one + more for one, more in zip(row, other)]


def strip_least(wants, length):
    looked_through(wants, length)
    held_to(length, MOST_COUNTED)
    return fewest(wants, length)[0]


def strip_seeds(wants, length):
    looked_through(wants, length)
    width = len(wants)
    held_to(length, MOST_HEARTHS // width)
    hearths = []
    for turn, seeds in enumerate(fewest(wants, length)[1]):
        hearths.extend([turn * width + place for place in range(width) if has(seeds, place)])
    return tuple(hearths)


def fewest(wants, length):
    # A pair: how many seeds are the fewest, and such seeds, slice by slice.
    return gone_through(wants, length, (0, ()), with_slice, lambda one, other: min(one, other))


def with_slice(pair, seeds):
    return (pair[0] + count_in(seeds), pair[1] + (seeds,))


def has(mask, place):
    # The hearths of a slice are the bits of a number.
    return (mask >> place) & 1


def count_in(mask):
    return has(mask, 0) + has(mask, 1)


def gone_through(wants, length, first, passed, joined):
    # A value for each answer that the slices so far can give: `passed` takes it on by the seeds of one
    # slice more, `joined` makes one value of two with the same answer.
    begin = ((0, True),) * (1 << len(wants))
    following = answers_behind(wants, begin)
    values = {begin: first}
    for turn in range(length):
        later = {}
        for answer in values:
            for seeds, behind in following[answer]:
                join_in(later, behind, passed(values[answer], seeds), joined)
        values = later
    ends = {}
    for answer in values:
        # Behind the last slice nothing burns.
        if answer[0][1]:
            join_in(ends, True, values[answer], joined)
    return ends[True]


def join_in(values, key, value, joined):
    if key in values:
        values[key] = joined(values[key], value)
    else:
        values[key] = value


def answers_behind(wants, begin):
    # Under each answer that can come the pairs of the next slice's seeds and the answer behind it.
    following = {}
    waiting = [begin]
    while waiting:
        answer = waiting.pop()
        if answer not in following:
            pairs = [(seeds, next_answer(wants, answer, seeds)) for seeds in range(len(answer))]
            # Where not even a slice that burns whole would light all that is behind it, nothing will.
            following[answer] = [pair for pair in pairs if pair[1][-1][1]]
            waiting.extend([behind for seeds, behind in following[answer]])
    return following


def next_answer(wants, answer, seeds):
    # An answer tells, for each set of hearths that might burn in the slice ahead, a pair: what burns
    # in the end in the last slice by them, and whether all slices so far do.
    return tuple([settled(wants, answer, seeds, ahead) for ahead in range(len(answer))])


def settled(wants, answer, seeds, ahead):
    burning = seeds
    more = with_kindled(wants, answer[burning][0], burning, ahead)
    while more != burning:
        burning = more
        more = with_kindled(wants, answer[burning][0], burning, ahead)
    whole = len(answer) - 1
    return (burning, burning == whole and answer[whole][1])


def with_kindled(wants, behind, burning, ahead):
    lit = burning
    for place, want in enumerate(wants):
        if has(behind, place) + has(ahead, place) + has(burning, 1 - place) >= want:
            lit = lit | (1 << place)
    return lit
