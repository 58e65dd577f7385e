import unittest
from itertools import combinations, permutations

from kindleweb.errors import NoPaper, NotWood
from kindleweb.webs import hearths_in, made_web
from kindleweb.woods import apart_paper, elders_of, is_wood, judged_apart
from tests.samples import (FAR, cold_by_words, knot_web, lighting_by_words, mixed_webs, mixed_woods, neighbours,
                           ring_web, row_web, sets_of, small_webs, small_woods)

EMPTY = ((), ())
STAR = made_web([3, 1, 1, 2, 0], [(0, 3), (1, 3), (2, 3), (3, 4)])


def has_round(web):
    """A round of three or more hearths, sought among all rows of hearths."""
    many = hearths_in(web)
    return any(all(row[k - 1] in neighbours(web, row[k]) for k in range(size))
               for size in range(3, many + 1) for row in permutations(range(many), size))


def way_to(web, one, other):
    """The way by links from the one hearth to the other in a wood, or None."""
    ways = [(one,)]
    while ways:
        way = ways.pop()
        if way[-1] == other:
            return way
        ways.extend(way + (k,) for k in neighbours(web, way[-1]) if k not in way)
    return None


def elders_by_words(web):
    elders = []
    for hearth in range(hearths_in(web)):
        root = min(k for k in range(hearths_in(web)) if way_to(web, hearth, k))
        elders.append(None if root == hearth else way_to(web, hearth, root)[1])
    return elders


class Woods(unittest.TestCase):
    def test_woods(self):
        for web in (EMPTY, ((1,), ()), made_web([1] * 40, []), row_web(40, 1), STAR, made_web([0] * 3, [(0, 2)])):
            self.assertIs(is_wood(web), True)

    def test_no_woods(self):
        for web in (ring_web(3, 1), ring_web(40, 0), knot_web(40, 1),
                    made_web([1] * 40, [(37, 38), (38, 39), (37, 39)]),
                    made_web([0] * 6, [(0, 1), (2, 3), (3, 4), (4, 5), (5, 2)])):
            self.assertIs(is_wood(web), False)
            with self.assertRaises(NotWood):
                elders_of(web)
            with self.assertRaises(NotWood):
                apart_paper(web)

    def test_by_the_words(self):
        for web in small_webs()[:-40:5] + mixed_webs()[::4] + mixed_webs()[1::4]:
            self.assertIs(is_wood(web), not has_round(web))

    def test_elders(self):
        self.assertEqual(elders_of(EMPTY), [])
        self.assertEqual(elders_of(made_web([5] * 3, [])), [None] * 3)
        self.assertEqual(elders_of(row_web(4, 1)), [None, 0, 1, 2])
        self.assertEqual(elders_of(STAR), [None, 3, 3, 0, 3])
        self.assertEqual(elders_of(made_web([0] * 6, [(0, 5), (5, 2), (1, 4), (4, 3)])), [None, None, 5, 4, 1, 0])
        self.assertEqual(elders_of(made_web([0] * 40, [(k, 39) for k in range(39)])), [None] + [39] * 38 + [0])
        self.assertEqual(elders_of(row_web(40, 1)), [None] + list(range(39)))

    def test_elders_by_the_words(self):
        for web in small_woods()[::4] + mixed_woods():
            self.assertEqual(elders_of(web), elders_by_words(web))


class ApartPapers(unittest.TestCase):
    def held(self, web):
        told = apart_paper(web)
        self.assertIs(type(told), tuple)
        seeds, blocks = told
        self.assertEqual([type(part) for part in (seeds, blocks) + blocks], [tuple] * (2 + len(blocks)))
        self.assertEqual(len(seeds), len(blocks))
        for some in (seeds,) + blocks:
            self.assertEqual(some, tuple(sorted(set(some))))
        for block in blocks:
            self.assertTrue(block)
            self.assertTrue(cold_by_words(web, block))
        for one, other in combinations(blocks, 2):
            self.assertFalse(set(one) & set(other))
        self.assertEqual(judged_apart(web, told), len(seeds))
        return seeds

    def test_edges(self):
        self.assertEqual(apart_paper(EMPTY), ((), ()))
        self.assertEqual(apart_paper(row_web(40, 0)), ((), ()))
        self.assertEqual(apart_paper(((1,), ())), ((0,), ((0,),)))
        self.assertEqual(apart_paper(((0,), ())), ((), ()))

    def test_counts(self):
        self.assertEqual(len(self.held(STAR)), 1)
        for many in range(1, 41):
            self.assertEqual(len(self.held(row_web(many, 1))), 1)
            self.assertEqual(len(self.held(row_web(many, 2))), many // 2 + 1)
            self.assertEqual(len(self.held(row_web(many, 3))), many)
        self.assertEqual(len(self.held(made_web([60] * 40, []))), 40)
        self.assertEqual(len(self.held(made_web([20] + [1] * 39, [(0, k) for k in range(1, 40)]))), 1)
        self.assertEqual(len(self.held(made_web([2] * 40, [(k, (k - 1) // 3) for k in range(1, 40)]))), 27)

    def test_no_fewer_light_the_wood(self):
        for web in small_woods():
            seeds = self.held(web)
            lighting = lighting_by_words(web)
            self.assertIn(seeds, lighting)
            self.assertEqual(len(seeds), min(map(len, lighting)))


class JudgedApart(unittest.TestCase):
    def refused(self, web, seeds, blocks):
        with self.assertRaises(NoPaper):
            judged_apart(web, (seeds, blocks))

    def test_webs_that_are_no_woods(self):
        web = ring_web(6, 2)
        self.assertEqual(judged_apart(web, ((0, 2, 4), ((0, 1), (2, 3), (4, 5)))), 3)
        self.assertEqual(judged_apart(web, ((1, 3, 5), ((4, 5), (0, 1), (2, 3)))), 3)
        self.assertEqual(judged_apart(knot_web(40, 60), (tuple(range(40)), tuple((k,) for k in range(40)))), 40)

    def test_right_ones(self):
        self.assertEqual(judged_apart(EMPTY, ((), ())), 0)
        self.assertEqual(judged_apart(row_web(40, 0), ((), ())), 0)
        self.assertEqual(judged_apart(row_web(40, 1), ((17,), (tuple(range(40)),))), 1)
        self.assertEqual(judged_apart(row_web(3, 2), ((0, 2), ((0,), (2,)))), 2)
        self.assertEqual(judged_apart(row_web(3, 2), ((0, 2), ((1, 2), (0,)))), 2)

    def test_seeds_that_are_not_right(self):
        web = row_web(3, 2)
        blocks = ((0,), (2,))
        # Falling, twice, no hearths, not lighting the web.
        for seeds in ((2, 0), (0, 0), (2, 2), (-1, 0), (0, 3), (-3, -1), (0, FAR), (-FAR, 0), (0, 1), (1, 2)):
            self.refused(web, seeds, blocks)
        self.refused(web, (0, 2, 2), ((0,), (2,), (1, 2)))
        self.refused(web, (), ())
        self.refused(EMPTY, (0,), ((0,),))

    def test_blocks_that_are_not_right(self):
        web = row_web(3, 2)
        # Empty, not cold, falling, twice, no hearths.
        for wrong in ((), (1,), (2, 1), (2, 2), (1, 1, 2), (-1,), (-1, 2), (2, 3), (3,), (FAR,), (-FAR,), (1, -1)):
            self.refused(web, (0, 2), ((0,), wrong))
            self.refused(web, (0, 2), (wrong, (0,)))

    def test_blocks_that_meet(self):
        web = row_web(3, 2)
        for one, other in (((0,), (0,)), ((0, 1), (1, 2)), ((0, 1, 2), (2,)), ((0,), (0, 1))):
            self.assertTrue(cold_by_words(web, one) and cold_by_words(web, other))
            self.refused(web, (0, 2), (one, other))
        self.refused(made_web([1] * 3, []), (0, 1, 2), ((0,), (1,), (0, 2)))

    def test_another_count(self):
        web = row_web(3, 2)
        self.refused(web, (0, 2), ((0,),))
        self.refused(web, (0, 2), ())
        self.refused(web, (0, 1, 2), ((0,), (2,)))
        self.refused(row_web(3, 0), (), ((),))
        self.refused(row_web(3, 0), (1,), ())
        self.refused(row_web(3, 0), (1,), ((1,),))

    def test_by_the_words(self):
        for web in mixed_webs()[::4][:4] + mixed_woods()[::5][:4]:
            sets = sets_of(hearths_in(web))
            lighting = lighting_by_words(web)
            for seeds in [some for some in sets if len(some) == 2]:
                for one in sets:
                    for other in sets:
                        right = (seeds in lighting and one and other and not set(one) & set(other)
                                 and cold_by_words(web, one) and cold_by_words(web, other))
                        if right:
                            self.assertEqual(judged_apart(web, (seeds, (one, other))), 2)
                        else:
                            self.refused(web, seeds, (one, other))


class WhatIsTold(unittest.TestCase):
    def test_told_elders_can_be_changed(self):
        told = elders_of(STAR)
        told[0] = 9
        self.assertEqual(elders_of(STAR), [None, 3, 3, 0, 3])
        self.assertEqual(apart_paper(STAR), apart_paper(STAR))


if __name__ == "__main__":
    unittest.main()
