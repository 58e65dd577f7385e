"""Webs: what each hearth wants, and which hearths are linked."""

from kindleweb.errors import BadSet, BadWeb

MOST_HEARTHS = 40
MOST_WANTED = 60


def made_web(wants, links):
    if len(wants) > MOST_HEARTHS:
        raise BadWeb("a web has at most 40 hearths")
    for want in wants:
        if want < 0 or want > MOST_WANTED:
            raise BadWeb("a hearth wants from 0 to 60 neighbours")
    pairs = sorted([lesser_first(len(wants), link) for link in links])
    if not rises(pairs):
        raise BadWeb("two links have the same two hearths")
    return (tuple(wants), tuple(pairs))


def lesser_first(many, link):
    one = min(link)
    other = max(link)
    if one < 0 or other >= many:
        raise BadWeb("a link has a number that is no hearth")
    if one == other:
        raise BadWeb("a link joins two unlike hearths")
    return (one, other)


def rises(things):
    return all([ahead < behind for ahead, behind in zip(things, things[1:])])


def hearths_in(web):
    return len(web[0])


def near_lists(web):
    # The links rise, so each hearth meets its lesser neighbours first and the lists rise too.
    around = [[] for want in web[0]]
    for one, other in web[1]:
        around[one].append(other)
        around[other].append(one)
    return around


def near(web, hearth):
    return near_lists(web)[hearth]


def degree_of(web, hearth):
    return len(near(web, hearth))


def is_hearth(web, number):
    return number >= 0 and number < hearths_in(web)


def is_set(web, numbers):
    return rises(numbers) and all([is_hearth(web, number) for number in numbers])


def made_set(web, hearths):
    if not is_set(web, hearths):
        raise BadSet("a set is of rising hearths of the web")
    return tuple(hearths)


def sets_among(hearths):
    # Each hearth doubles the list, so a set's place is the sum of 1 << k over the turns k of its hearths.
    chosen = [()]
    for hearth in hearths:
        chosen = chosen + [some + (hearth,) for some in chosen]
    return chosen


def has_each_once(web, numbers):
    return sorted(numbers) == list(range(hearths_in(web)))


def moved_web(web, places):
    if not has_each_once(web, places):
        raise BadWeb("each place comes once")
    wants = list(web[0])
    for hearth, place in enumerate(places):
        wants[place] = web[0][hearth]
    return made_web(wants, [(places[one], places[other]) for one, other in web[1]])


def rest_web(web, some):
    places = {}
    for place, hearth in enumerate(made_set(web, some)):
        places[hearth] = place
    around = near_lists(web)
    wants = [max(0, web[0][hearth] - count_outside(around[hearth], places)) for hearth in places]
    links = [(places[one], places[other]) for one, other in web[1] if one in places and other in places]
    return (tuple(wants), tuple(links))


def marked(hearths):
    inside = {}
    for hearth in hearths:
        inside[hearth] = True
    return inside


def count_inside(hearths, inside):
    return len([hearth for hearth in hearths if hearth in inside])


def count_outside(hearths, inside):
    return len(hearths) - count_inside(hearths, inside)


def without(hearths, some):
    gone = marked(some)
    return tuple([hearth for hearth in hearths if hearth not in gone])


def all_but(web, some):
    return without(list(range(hearths_in(web))), some)
