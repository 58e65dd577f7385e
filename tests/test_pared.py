import unittest

from kindleweb.errors import BadPrices, BadSet, NoPaper, NoSuch
from kindleweb.pared import judged_own, own_paper, pared, price_of
from kindleweb.spread import lights_all
from kindleweb.webs import hearths_in, made_web
from tests.samples import (FAR, cold_by_words, knot_web, lighting_by_words, mixed_webs, ring_web, row_web, sets_of,
                           small_webs, wrong_prices, wrong_sets)

EMPTY = ((), ())


def pared_by_words(web, seeds):
    lighting = lighting_by_words(web)
    left = seeds
    for seed in seeds:
        fewer = tuple(k for k in left if k != seed)
        left = fewer if fewer in lighting else left
    return left


class Prices(unittest.TestCase):
    def test_sums(self):
        web = row_web(4, 1)
        self.assertEqual(price_of(web, [5, 7, 11, 13], []), 0)
        self.assertEqual(price_of(web, (5, 7, 11, 13), (1,)), 7)
        self.assertEqual(price_of(web, [5, 7, 11, 13], [0, 2, 3]), 29)
        self.assertEqual(price_of(web, [0, 0, 0, 0], (0, 1)), 0)
        self.assertEqual(price_of(EMPTY, (), ()), 0)

    def test_large_prices_and_a_great_web(self):
        self.assertEqual(price_of(row_web(40, 1), [FAR] * 39 + [1], tuple(range(40))), 39 * FAR + 1)
        self.assertEqual(price_of(row_web(40, 1), [10 ** 60 - 1] * 40, [0, 39]), 2 * 10 ** 60 - 2)

    def test_wrong_prices_ahead_of_wrong_sets(self):
        web = row_web(4, 1)
        for wrong in wrong_prices(4):
            for told in (wrong, tuple(wrong)):
                for seeds in ((), (0, 1), (1, 0), [4]):
                    with self.assertRaises(BadPrices):
                        price_of(web, told, seeds)
        with self.assertRaises(BadPrices):
            price_of(EMPTY, [0], ())

    def test_wrong_sets(self):
        for wrong in wrong_sets(4):
            for told in (wrong, tuple(wrong)):
                with self.assertRaises(BadSet):
                    price_of(row_web(4, 1), [1, 2, 3, 4], told)


class Pared(unittest.TestCase):
    def test_none_some_and_all_left_out(self):
        self.assertEqual(pared(EMPTY, ()), ())
        self.assertEqual(pared(ring_web(4, 2), [0, 2]), (0, 2))
        self.assertEqual(pared(ring_web(4, 2), (0, 1, 2)), (0, 2))
        self.assertEqual(pared(row_web(4, 0), (0, 1, 2, 3)), ())
        self.assertEqual(pared(made_web([3, 0, 0], []), [0, 1, 2]), (0,))

    def test_from_the_least_one_on(self):
        self.assertEqual(pared(row_web(4, 1), (0, 1, 3)), (3,))
        self.assertEqual(pared(ring_web(4, 2), (0, 1, 2, 3)), (1, 3))
        self.assertEqual(pared(knot_web(40, 20), list(range(40))), tuple(range(20, 40)))
        # Left out from the greatest one on, the hearth 0 would be left alone.
        self.assertEqual(pared(made_web([2, 1, 1], [(0, 1), (0, 2)]), (0, 1, 2)), (1, 2))

    def test_by_the_words(self):
        for web in small_webs()[::3] + mixed_webs()[:20]:
            for seeds in lighting_by_words(web):
                told = pared(web, seeds)
                self.assertEqual(told, pared_by_words(web, seeds))
                self.assertEqual(pared(web, list(seeds)), told)
                self.assertIs(type(told), tuple)

    def test_refused(self):
        for call in (pared, own_paper):
            for wrong in wrong_sets(4):
                for told in (wrong, tuple(wrong)):
                    with self.assertRaises(BadSet):
                        call(row_web(4, 0), told)
                    with self.assertRaises(BadSet):
                        call(row_web(4, 9), told)
            for seeds in ((), [0], (0, 1), (1, 2, 3)):
                with self.assertRaises(NoSuch):
                    call(row_web(4, 9), seeds)
            for web in mixed_webs()[:12]:
                lighting = lighting_by_words(web)
                for seeds in sets_of(hearths_in(web)):
                    if seeds not in lighting:
                        with self.assertRaises(NoSuch):
                            call(web, seeds)


class OwnPapers(unittest.TestCase):
    def held(self, web, seeds):
        paper = own_paper(web, seeds)
        self.assertIs(type(paper), tuple)
        self.assertEqual(len(paper), len(seeds))
        for seed, block in zip(seeds, paper):
            self.assertIs(type(block), tuple)
            self.assertEqual(block, tuple(sorted(set(block))))
            self.assertEqual(set(block) & set(seeds), {seed})
            self.assertTrue(cold_by_words(web, block))
        self.assertEqual(judged_own(web, seeds, paper), len(seeds))
        self.assertEqual(judged_own(web, list(seeds), list(paper)), len(seeds))

    def test_edges(self):
        self.assertEqual(own_paper(EMPTY, []), ())
        self.assertEqual(own_paper(row_web(3, 0), ()), ())
        self.held(row_web(40, 3), tuple(range(40)))
        self.held(ring_web(40, 2), tuple(range(0, 40, 2)))

    def test_told_just_where_none_can_be_left_out(self):
        for web in small_webs()[::3] + mixed_webs()[:20]:
            lighting = lighting_by_words(web)
            for seeds in lighting:
                if any(tuple(k for k in seeds if k != seed) in lighting for seed in seeds):
                    with self.assertRaises(NoSuch):
                        own_paper(web, seeds)
                else:
                    self.held(web, seeds)

    def test_one_that_can_be_left_out(self):
        for seeds in ((0, 1, 2), [0, 2, 3], (0, 1, 2, 3)):
            with self.assertRaises(NoSuch):
                own_paper(ring_web(4, 2), seeds)
        with self.assertRaises(NoSuch):
            own_paper(row_web(3, 0), (1,))


class JudgedOwn(unittest.TestCase):
    WEB = ring_web(6, 2)
    SEEDS = (0, 2, 4)

    def test_right_ones(self):
        for paper in (((0, 1), (2, 3), (4, 5)), ((0, 5), (1, 2), (3, 4)), ((0, 1, 5), (1, 2, 3), (3, 4, 5)),
                      [(0, 1), (1, 2), (3, 4)]):
            self.assertEqual(judged_own(self.WEB, self.SEEDS, paper), 3)
            self.assertEqual(judged_own(self.WEB, list(self.SEEDS), paper), 3)
        self.assertEqual(judged_own(EMPTY, (), ()), 0)
        self.assertEqual(judged_own(row_web(3, 0), [], []), 0)

    def refused(self, web, seeds, paper):
        for told in (tuple(paper), list(paper)):
            with self.assertRaises(NoPaper):
                judged_own(web, seeds, told)

    def test_another_count_of_blocks(self):
        self.refused(self.WEB, self.SEEDS, ())
        self.refused(self.WEB, self.SEEDS, ((0, 1), (2, 3)))
        self.refused(self.WEB, self.SEEDS, ((0, 1), (2, 3), (4, 5), (4, 5)))
        self.refused(row_web(3, 0), (), ((),))

    def test_blocks_that_are_not_right(self):
        # Not cold, without its seed, empty, with another seed, falling, twice, no hearths.
        for wrong in ((0,), (0, 1, 3), (1, 3, 5), (3,), (), (0, 1, 2), (0, 1, 2, 3, 4, 5), (2, 3), (1, 0), (5, 0),
                      (0, 0, 1), (0, 1, 1), (-6, -5), (-1, 0, 1), (0, 1, 6), (0, 1, FAR), (-FAR, 0, 1), (6, 7)):
            self.refused(self.WEB, self.SEEDS, (wrong, (2, 3), (4, 5)))
        self.refused(self.WEB, self.SEEDS, ((0, 1), (2, 3), (5, 4)))
        self.refused(self.WEB, self.SEEDS, ((2, 3), (0, 1), (4, 5)))

    def test_another_seed_in_a_cold_block(self):
        web = made_web([1, 1], [])
        self.refused(web, (0, 1), ((0, 1), (1,)))
        self.refused(web, (0, 1), ((0,), (0, 1)))
        self.refused(web, (0, 1), ((1,), (0,)))
        self.assertEqual(judged_own(web, (0, 1), ((0,), (1,))), 2)

    def test_seeds_that_do_not_light_the_web(self):
        self.refused(self.WEB, (0, 2), ((0, 1), (2, 3)))
        self.refused(self.WEB, (), ())
        self.refused(row_web(3, 1), [], [])
        self.assertFalse(lights_all(self.WEB, (0, 2)))

    def test_seeds_that_can_be_left_out_have_no_right_one(self):
        web = row_web(3, 1)
        sets = sets_of(3)
        for one in sets:
            for other in sets:
                self.refused(web, (0, 2), (one, other))

    def test_by_the_words(self):
        for web in mixed_webs()[::4][:5]:
            sets = sets_of(hearths_in(web))
            lighting = lighting_by_words(web)
            for seeds in [some for some in sets if len(some) == 2]:
                for one in sets:
                    for other in sets[::3]:
                        right = seeds in lighting and all(
                            cold_by_words(web, block) and set(block) & set(seeds) == {seed}
                            for seed, block in zip(seeds, (one, other)))
                        if right:
                            self.assertEqual(judged_own(web, seeds, (one, other)), 2)
                        else:
                            self.refused(web, seeds, (one, other))

    def test_wrong_sets_ahead_of_wrong_papers(self):
        for wrong in wrong_sets(6):
            for told in (wrong, tuple(wrong)):
                for paper in ((), ((0, 1), (2, 3), (4, 5)), ((0,),), [(9,), (1, 0)]):
                    with self.assertRaises(BadSet):
                        judged_own(self.WEB, told, paper)


class WhatIsHandedIn(unittest.TestCase):
    def test_lists_stay_and_are_not_kept(self):
        web = ring_web(4, 2)
        prices = [1, 2, 3, 4]
        seeds = [0, 2]
        paper = [(0, 1), (2, 3)]
        told = (price_of(web, prices, seeds), pared(web, seeds), own_paper(web, seeds), judged_own(web, seeds, paper))
        self.assertEqual((prices, seeds, paper), ([1, 2, 3, 4], [0, 2], [(0, 1), (2, 3)]))
        prices.clear()
        seeds.clear()
        paper.clear()
        self.assertEqual(told[:2], (4, (0, 2)))
        self.assertEqual(told[2], own_paper(web, (0, 2)))
        self.assertEqual(told[3], 2)


if __name__ == "__main__":
    unittest.main()
