"""Webs and sets that several tests go through."""

from itertools import combinations, product

from kindleweb.webs import made_web

REFUSALS = ("BadWeb", "BadSet", "BadOrder", "BadPrices", "BadBoard", "BadDeed",
            "NotWood", "NoPaper", "NoSuch", "TooMany", "NoText", "OddRound")
FAR = 10 ** 59


def row_web(many, want):
    return made_web([want] * many, [(k, k + 1) for k in range(many - 1)])


def ring_web(many, want):
    return made_web([want] * many, [(k, (k + 1) % many) for k in range(many)])


def knot_web(many, want):
    return made_web([want] * many, list(combinations(range(many), 2)))


def sets_of(many):
    return [some for size in range(many + 1) for some in combinations(range(many), size)]


def wrong_sets(many):
    """Lists of numbers that are no sets of a web with so many hearths, from 2 on."""
    return [[0, 0], [1, 0], [-1], [-1, 0], [many], [0, many], [FAR], [-FAR]]


def small_webs():
    """Every web of at most 3 hearths with wants up to 3, and some greater ones."""
    webs = []
    for many in range(4):
        pairs = list(combinations(range(many), 2))
        for wants in product(range(4), repeat=many):
            for bits in product((0, 1), repeat=len(pairs)):
                webs.append((wants, tuple(pair for pair, bit in zip(pairs, bits) if bit)))
    return webs + mixed_webs()


def mixed_webs():
    """Webs of 4 to 7 hearths, mixed by a plain sum so that they are the same each time."""
    webs = []
    state = 1
    for turn in range(40):
        many = 4 + turn % 4
        wants = []
        links = []
        for one in range(many):
            state = (state * 1103515245 + 12345) % (1 << 31)
            wants.append((state >> 16) % 4)
            for other in range(one + 1, many):
                state = (state * 1103515245 + 12345) % (1 << 31)
                if (state >> 16) % 5 < 2:
                    links.append((one, other))
        webs.append(made_web(wants, links))
    return webs


def small_woods():
    """Every web without rounds of at most 3 hearths with wants up to 3, and some greater ones."""
    return [web for web in small_webs()[:-40] if len(web[1]) < 3] + mixed_woods()


def mixed_woods():
    """Webs without rounds of 4 to 8 hearths, likewise mixed; some fall into several trees."""
    webs = []
    state = 7
    for turn in range(60):
        many = 4 + turn % 5
        wants = []
        links = []
        for one in range(many):
            state = (state * 1103515245 + 12345) % (1 << 31)
            wants.append((state >> 16) % 4)
            state = (state * 1103515245 + 12345) % (1 << 31)
            other = (state >> 16) % (one + 1)
            if other < one:
                # Seven and eleven have no factor in common with the counts that are asked for.
                step = 11 if many == 7 else 7
                links.append((one * step % many, other * step % many))
        webs.append(made_web(wants, links))
    return webs


def neighbours(web, hearth):
    return [k for k in range(len(web[0])) if (k, hearth) in web[1] or (hearth, k) in web[1]]


def burnt_by_words(web, seeds):
    """What burns in the end, straight by [2.1], with the round of each hearth."""
    ranks = {hearth: 0 for hearth in seeds}
    turn = 0
    while True:
        turn += 1
        lit = [k for k in range(len(web[0])) if k not in ranks
               and len([j for j in neighbours(web, k) if j in ranks]) >= web[0][k]]
        if not lit:
            return ranks
        ranks.update({hearth: turn for hearth in lit})


def cold_by_words(web, block):
    return all(len([j for j in neighbours(web, k) if j not in block]) < web[0][k] for k in block)


def lighting_by_words(web):
    """All sets of seeds from which each hearth burns in the end."""
    return [seeds for seeds in sets_of(len(web[0])) if len(burnt_by_words(web, seeds)) == len(web[0])]


def wrong_prices(many):
    """Lists that are no prices for so many hearths, from 2 on."""
    return [[], [1] * (many - 1), [1] * (many + 1), [-1] + [1] * (many - 1), [1] * (many - 1) + [-1],
            [FAR] * (many - 1) + [-FAR]]
