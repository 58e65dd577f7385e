"""Webs where all neighbours are wanted, or all but one, and what seeds leave of them."""

from kindleweb.blocks import least_within
from kindleweb.errors import BadWeb
from kindleweb.webs import MOST_HEARTHS, count_inside, hearths_in, made_set, made_web, marked, near_lists
from kindleweb.woods import all_pieces


def full_web(many, links):
    return wanting_all_but(linked_web(many, links), 0)


def nearly_full_web(many, links):
    return wanting_all_but(linked_web(many, links), 1)


def linked_web(many, links):
    if many < 0 or many > MOST_HEARTHS:
        raise BadWeb("a web has from 0 to 40 hearths")
    return made_web([0] * many, links)


def wanting_all_but(web, few):
    return (tuple([max(0, len(beside) - few) for beside in near_lists(web)]), web[1])


def is_full(web):
    return web == wanting_all_but(web, 0)


def is_nearly_full(web):
    return web == wanting_all_but(web, 1)


def link_in(web, some):
    inside = marked(made_set(web, some))
    for link in web[1]:
        if count_inside(link, inside) == 2:
            return link
    return None


def round_in(web, some):
    # The least cold blocks of the nearly full web with these links are just the plain rounds.
    block = least_within(wanting_all_but(web, 1), some)
    if not block:
        return None
    inside = marked(block)
    around = near_lists(web)
    row = [block[0]]
    while len(row) < len(block):
        # Beside the least hearth two are left, the lesser first; beside each later one just one.
        left = [other for other in around[row[-1]] if other in inside and other not in row]
        row.append(left[0])
    return tuple(row)


def measure_of(web):
    return len(web[1]) - hearths_in(web) + len(all_pieces(web))
