"""Webs in two colours, with the fewest seeds that have a hearth of each link and as many links apart."""

from kindleweb.errors import OddRound
from kindleweb.webs import count_inside, hearths_in, is_set, marked, near_lists, rises


def ways_out(web):
    # For each hearth a way to it by links, from the least hearth of its piece on.
    around = near_lists(web)
    ways = {}
    for root in range(hearths_in(web)):
        waiting = []
        if root not in ways:
            ways[root] = (root,)
            waiting.append(root)
        while waiting:
            hearth = waiting.pop()
            for other in around[hearth]:
                if other not in ways:
                    ways[other] = ways[hearth] + (other,)
                    waiting.append(other)
    return ways


def colour_behind(way):
    return (len(way) - 1) % 2


def colours_of(web):
    if odd_round(web) is not None:
        raise OddRound("a round has an odd count of hearths")
    ways = ways_out(web)
    return [colour_behind(ways[hearth]) for hearth in range(hearths_in(web))]


def odd_round(web):
    ways = ways_out(web)
    for one, other in web[1]:
        if colour_behind(ways[one]) == colour_behind(ways[other]):
            return closed_round(ways[one], ways[other])
    return None


def closed_round(way, other):
    # Where the two ways part they never meet again, so from there on they close a round.
    shared = 0
    while shared < min(len(way), len(other)) and way[shared] == other[shared]:
        shared = shared + 1
    return way[shared - 1:] + tuple(reversed(other[shared:]))


def cover_of(web):
    colours = colours_of(web)
    around = near_lists(web)
    firsts = [hearth for hearth, colour in enumerate(colours) if colour == 0]
    partners = {}
    for hearth in firsts:
        find_partner(around, partners, hearth)
    # From those left alone on, by way of neighbours and their partners, all neighbours are seeds; of the
    # other links the hearth of colour 0 is one. So each pair of partners has just one seed.
    reached = reached_from(around, partners, [hearth for hearth in firsts if hearth not in partners])
    seeds = [hearth for hearth, colour in enumerate(colours) if (hearth in reached) == (colour == 1)]
    links = [(one, partners[one]) for one in sorted(partners) if one < partners[one]]
    return (tuple(seeds), tuple(links))


def find_partner(around, partners, hearth):
    # Who has a partner already gives it away where another one can be found instead.
    asked_by = {}
    waiting = [hearth]
    while waiting:
        one = waiting.pop()
        for other in around[one]:
            if other not in asked_by:
                asked_by[other] = one
                if other not in partners:
                    change_partners(partners, asked_by, other)
                    return
                waiting.append(partners[other])


def change_partners(partners, asked_by, free):
    other = free
    while other is not None:
        one = asked_by[other]
        former = partners.get(one)
        partners[one] = other
        partners[other] = one
        other = former


def reached_from(around, partners, alone):
    reached = marked(alone)
    waiting = list(alone)
    while waiting:
        one = waiting.pop()
        for other in around[one]:
            if other not in reached:
                reached[other] = True
                reached[partners[other]] = True
                waiting.append(partners[other])
    return reached


def judged_cover(web, cover):
    seeds = cover[0]
    links = cover[1]
    if len(seeds) != len(links) or not is_set(web, seeds) or not rises(links):
        return False
    inside = marked(seeds)
    if any([count_inside(link, inside) == 0 for link in web[1]]):
        return False
    ends = []
    for link in links:
        ends.extend(link)
    return all([link in web[1] for link in links]) and len(set(ends)) == len(ends)
