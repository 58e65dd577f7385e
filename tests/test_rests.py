import unittest
from itertools import combinations

from kindleweb.blocks import least_colds
from kindleweb.errors import BadSet, BadWeb
from kindleweb.rests import (full_web, is_full, is_nearly_full, link_in, measure_of, nearly_full_web, round_in)
from kindleweb.webs import made_web, moved_web
from tests.samples import (FAR, burnt_by_words, knot_web, mixed_webs, mixed_woods, neighbours, ring_web, row_web,
                           sets_of, small_webs, wrong_sets)

EMPTY = ((), ())


def all_links(many):
    """Every way to link so many hearths."""
    pairs = list(combinations(range(many), 2))
    return [[pairs[k] for k in some] for some in sets_of(len(pairs))]


def sample_links():
    """Counts of hearths, with links for these."""
    told = [(many, links) for many in range(5) for links in all_links(many)]
    return told + [(len(web[0]), list(web[1])) for web in mixed_webs()]


def are_linked(web, one, other):
    return (min(one, other), max(one, other)) in web[1]


def is_plain_round(web, row):
    many = len(row)
    if many < 3 or len(set(row)) != many:
        return False
    return all(are_linked(web, row[j], row[k]) == (k - j in (1, many - 1)) for j, k in combinations(range(many), 2))


def has_round(web, some):
    """Whether a set has a round: hearths with at most one neighbour left go out, as long as there are some."""
    left = set(some)
    while True:
        ends = [k for k in left if len(left.intersection(neighbours(web, k))) < 2]
        if not ends:
            return bool(left)
        left.difference_update(ends)


def pieces_by_words(web):
    marks = list(range(len(web[0])))
    for one, other in web[1]:
        marks = [marks[one] if mark == marks[other] else mark for mark in marks]
    return len(set(marks))


class FullWebs(unittest.TestCase):
    def test_edges(self):
        for call in (full_web, nearly_full_web):
            self.assertEqual(call(0, []), EMPTY)
            self.assertEqual(call(1, ()), ((0,), ()))
            self.assertEqual(call(3, []), ((0, 0, 0), ()))
            self.assertEqual(call(40, []), ((0,) * 40, ()))

    def test_ordinary(self):
        self.assertEqual(full_web(4, [(2, 1), (0, 1)]), ((1, 2, 1, 0), ((0, 1), (1, 2))))
        self.assertEqual(nearly_full_web(4, [(2, 1), (0, 1)]), ((0, 1, 0, 0), ((0, 1), (1, 2))))
        self.assertEqual(full_web(40, knot_web(40, 0)[1]), knot_web(40, 39))
        self.assertEqual(nearly_full_web(40, knot_web(40, 0)[1]), knot_web(40, 38))

    def test_links_in_any_order(self):
        for many, links in sample_links():
            turned = tuple((other, one) for one, other in reversed(links))
            for call, less in ((full_web, 0), (nearly_full_web, 1)):
                told = call(many, links)
                self.assertEqual(told, call(many, turned))
                self.assertEqual(told[1], tuple(sorted(links)))
                counts = [len([link for link in links if k in link]) for k in range(many)]
                self.assertEqual(told[0], tuple(max(0, count - less) for count in counts))

    def test_told_of_webs(self):
        for web in small_webs():
            counts = [len(neighbours(web, k)) for k in range(len(web[0]))]
            self.assertIs(is_full(web), list(web[0]) == counts)
            self.assertIs(is_nearly_full(web), list(web[0]) == [max(0, count - 1) for count in counts])

    def test_both_or_neither(self):
        for web in (EMPTY, ((0,), ()), ((0, 0), ())):
            self.assertIs(is_full(web), True)
            self.assertIs(is_nearly_full(web), True)
        self.assertIs(is_full(((1,), ())), False)
        self.assertIs(is_nearly_full(((1,), ())), False)
        self.assertIs(is_nearly_full(((0, 0), ((0, 1),))), True)
        self.assertIs(is_full(ring_web(5, 2)), True)
        self.assertIs(is_nearly_full(ring_web(5, 1)), True)
        self.assertIs(is_full(ring_web(5, 1)), False)
        self.assertIs(is_full(ring_web(5, 3)), False)

    def test_refused(self):
        wrong = [(-1, []), (41, []), (FAR, []), (-FAR, []), (-1, [(0, 1)]), (41, [(0, 1)])]
        wrong += [(3, [link]) for link in ((0, 3), (3, 0), (-1, 0), (0, -1), (1, 1), (FAR, 0), (0, -FAR), (3, 3))]
        wrong += [(0, [(0, 1)]), (1, [(0, 0)]), (1, [(0, 1)]), (40, [(39, 40)])]
        wrong += [(3, [(0, 1), (0, 1)]), (3, [(0, 1), (1, 0)]), (3, [(1, 0), (1, 2), (1, 0)])]
        wrong += [(3, ((1, 2), (0, 1), (2, 1)))]
        for many, links in wrong:
            for call in (full_web, nearly_full_web):
                with self.assertRaises(BadWeb, msg=(many, links)):
                    call(many, links)


class LinkIn(unittest.TestCase):
    def test_edges(self):
        self.assertIsNone(link_in(EMPTY, ()))
        self.assertIsNone(link_in(ring_web(5, 2), ()))
        self.assertIsNone(link_in(ring_web(5, 2), [3]))
        self.assertIsNone(link_in(ring_web(5, 2), [1, 3]))
        self.assertEqual(link_in(ring_web(5, 2), (0, 2, 4)), (0, 4))
        self.assertEqual(link_in(knot_web(40, 39), tuple(range(7, 40))), (7, 8))

    def test_least_one(self):
        for many, links in sample_links():
            web = full_web(many, links)
            for some in sets_of(many):
                within = [link for link in web[1] if link[0] in some and link[1] in some]
                told = link_in(web, some)
                self.assertEqual(told, min(within) if within else None)
                self.assertEqual(link_in(made_web([3] * many, links), list(some)), told)

    def test_seeds_that_light_a_full_web(self):
        for many, links in sample_links():
            web = full_web(many, links)
            for seeds in sets_of(many):
                rest = [k for k in range(many) if k not in seeds]
                self.assertEqual(link_in(web, rest) is None, len(burnt_by_words(web, seeds)) == many)

    def test_least_cold_blocks(self):
        for many, links in sample_links()[::5]:
            self.assertEqual(least_colds(full_web(many, links)), sorted(links))


class RoundIn(unittest.TestCase):
    def test_edges(self):
        self.assertIsNone(round_in(EMPTY, ()))
        self.assertIsNone(round_in(((0,), ()), [0]))
        self.assertIsNone(round_in(row_web(40, 1), tuple(range(40))))
        self.assertIsNone(round_in(ring_web(40, 1), tuple(range(39))))
        self.assertIsNone(round_in(knot_web(5, 2), [1, 4]))
        self.assertEqual(round_in(ring_web(40, 1), list(range(40))), tuple(range(40)))

    def test_towards_the_lesser_neighbour(self):
        self.assertEqual(round_in(knot_web(3, 0), (0, 1, 2)), (0, 1, 2))
        self.assertEqual(round_in(made_web([0] * 4, [(0, 3), (3, 1), (1, 2), (2, 0)]), (0, 1, 2, 3)), (0, 2, 1, 3))
        five = made_web([9] * 5, [(0, 4), (4, 2), (2, 1), (1, 3), (3, 0)])
        self.assertEqual(round_in(five, [0, 1, 2, 3, 4]), (0, 3, 1, 2, 4))

    def test_rounds_with_other_links(self):
        # A round of six with one link across falls into two plain ones of four.
        web = made_web([0] * 6, [(k, (k + 1) % 6) for k in range(6)] + [(0, 3)])
        self.assertIn(round_in(web, list(range(6))), ((0, 1, 2, 3), (0, 3, 4, 5)))
        self.assertEqual(round_in(web, (0, 1, 2, 3, 5)), (0, 1, 2, 3))
        self.assertIsNone(round_in(web, (0, 1, 2, 4, 5)))
        self.assertEqual(len(round_in(knot_web(40, 1), list(range(40)))), 3)

    def test_plain_ones_within_the_set(self):
        for many, links in sample_links():
            for web in (nearly_full_web(many, links), made_web([0] * many, links)):
                for some in sets_of(many):
                    self.right(web, some)

    def right(self, web, some):
        told = round_in(web, some)
        self.assertEqual(told is not None, has_round(web, some))
        if told is not None:
            self.assertIs(type(told), tuple)
            self.assertTrue(set(told) <= set(some))
            self.assertTrue(is_plain_round(web, told), (web, told))
            self.assertEqual(told[0], min(told))
            self.assertLess(told[1], told[-1])

    def test_great_webs(self):
        board = made_web([0] * 40, [(k, k + 1) for k in range(40) if k % 8 < 7] + [(k, k + 8) for k in range(32)])
        mixed = moved_web(board, [(7 * k + 3) % 40 for k in range(40)])
        for web in (board, mixed, knot_web(40, 0), moved_web(ring_web(40, 0), [(11 * k + 5) % 40 for k in range(40)])):
            for some in (tuple(range(40)), tuple(range(30)), tuple(range(3, 40)), tuple(range(0, 40, 3))):
                self.right(web, some)

    def test_seeds_that_light_a_nearly_full_web(self):
        for many, links in sample_links():
            web = nearly_full_web(many, links)
            for seeds in sets_of(many):
                rest = [k for k in range(many) if k not in seeds]
                self.assertEqual(round_in(web, rest) is None, len(burnt_by_words(web, seeds)) == many)

    def test_least_cold_blocks(self):
        for many, links in sample_links()[::5]:
            for block in least_colds(nearly_full_web(many, links)):
                self.assertEqual(tuple(sorted(round_in(made_web([0] * many, links), block))), block)


class Measure(unittest.TestCase):
    def test_edges(self):
        self.assertEqual(measure_of(EMPTY), 0)
        self.assertEqual(measure_of(((5,), ())), 0)
        self.assertEqual(measure_of(((5, 1, 0), ())), 0)
        self.assertEqual(measure_of(row_web(40, 1)), 0)
        self.assertEqual(measure_of(ring_web(40, 1)), 1)
        self.assertEqual(measure_of(knot_web(40, 1)), 741)

    def test_several_pieces(self):
        rings = [(0, 2), (2, 4), (4, 0), (1, 3), (3, 5), (5, 7), (7, 1)]
        self.assertEqual(measure_of(made_web([1] * 8, rings)), 2)
        self.assertEqual(measure_of(made_web([1] * 8, rings + [(6, 0)])), 2)
        self.assertEqual(measure_of(made_web([1] * 8, rings + [(0, 1)])), 2)
        self.assertEqual(measure_of(made_web([1] * 8, rings + [(0, 1), (2, 3)])), 3)

    def test_by_the_words(self):
        for web in small_webs():
            self.assertEqual(measure_of(web), len(web[1]) - len(web[0]) + pieces_by_words(web))
        for web in mixed_woods():
            self.assertEqual(measure_of(web), 0)

    def test_beside_seeds_that_light_all(self):
        for many, links in sample_links():
            web = nearly_full_web(many, links)
            for seeds in sets_of(many):
                if len(burnt_by_words(web, seeds)) == many:
                    self.assertGreaterEqual(sum(max(0, len(neighbours(web, k)) - 1) for k in seeds), measure_of(web))


class Refused(unittest.TestCase):
    def test_wrong_sets(self):
        for web in (ring_web(5, 2), knot_web(4, 1), row_web(3, 1)):
            for some in wrong_sets(len(web[0])):
                for call in (link_in, round_in):
                    for handed in (some, tuple(some)):
                        with self.assertRaises(BadSet):
                            call(web, handed)


class WhatIsHandedIn(unittest.TestCase):
    def test_lists_stay_and_are_not_kept(self):
        links = [(2, 0), (1, 0), (2, 1)]
        some = [0, 1, 2]
        web = full_web(3, links)
        nearly = nearly_full_web(3, links)
        told = (link_in(web, some), round_in(web, some))
        self.assertEqual((links, some), ([(2, 0), (1, 0), (2, 1)], [0, 1, 2]))
        links.clear()
        some.clear()
        self.assertEqual((web, nearly), (knot_web(3, 2), knot_web(3, 1)))
        self.assertEqual(told, ((0, 1), (0, 1, 2)))


if __name__ == "__main__":
    unittest.main()
