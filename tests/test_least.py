import unittest
from itertools import combinations, product

from kindleweb.errors import BadPrices, BadSet, NoSuch, TooMany
from kindleweb.least import (all_least, blocks_apart, cheapest, least_count, least_many, least_numbered,
                             number_of_least)
from kindleweb.spread import lights_all
from kindleweb.webs import hearths_in, made_web
from tests.samples import (FAR, cold_by_words, knot_web, lighting_by_words, mixed_webs, ring_web, row_web, sets_of,
                           small_webs, wrong_prices, wrong_sets)

EMPTY = ((), ())


def least_by_words(web):
    lighting = lighting_by_words(web)
    fewest = min(map(len, lighting))
    return sorted(seeds for seeds in lighting if len(seeds) == fewest)


def cheapest_by_words(web, prices):
    lighting = lighting_by_words(web)
    price = {seeds: sum(prices[k] for k in seeds) for seeds in lighting}
    return min(seeds for seeds in lighting if price[seeds] == min(price.values()))


def most_apart(web):
    """How many cold blocks stand apart at the most, sought in all ways."""
    cold = [set(block) for block in sets_of(hearths_in(web)) if block and cold_by_words(web, block)]

    def sought(start, taken):
        return max([0] + [1 + sought(k + 1, taken | cold[k]) for k in range(start, len(cold)) if not cold[k] & taken])
    return sought(0, set())


class LeastSeeds(unittest.TestCase):
    def test_no_hearths(self):
        self.assertEqual(least_many(EMPTY), 0)
        self.assertEqual(all_least(EMPTY), [()])
        self.assertEqual(least_count(EMPTY), 1)
        self.assertEqual(least_numbered(EMPTY, 0), ())
        self.assertEqual(number_of_least(EMPTY, []), 0)

    def test_all_want_none(self):
        for web in (row_web(5, 0), knot_web(12, 0)):
            self.assertEqual(least_many(web), 0)
            self.assertEqual(all_least(web), [()])
            self.assertEqual(least_count(web), 1)

    def test_all_want_more_than_they_have(self):
        for web in (made_web([1] * 5, []), row_web(12, 3), knot_web(12, 60)):
            whole = tuple(range(hearths_in(web)))
            self.assertEqual(least_many(web), len(whole))
            self.assertEqual(all_least(web), [whole])
            self.assertEqual(number_of_least(web, whole), 0)

    def test_ascending(self):
        self.assertEqual(all_least(row_web(4, 1)), [(0,), (1,), (2,), (3,)])
        self.assertEqual(all_least(ring_web(4, 2)), [(0, 2), (1, 3)])
        self.assertEqual(all_least(ring_web(5, 2)), [(0, 1, 3), (0, 2, 3), (0, 2, 4), (1, 2, 4), (1, 3, 4)])
        self.assertEqual(all_least(knot_web(12, 6)), list(combinations(range(12), 6)))
        self.assertEqual(all_least(knot_web(12, 11)), list(combinations(range(12), 11)))

    def test_by_the_words(self):
        for web in small_webs():
            asked = least_by_words(web)
            told = all_least(web)
            self.assertEqual(told, asked)
            self.assertEqual([type(seeds) for seeds in told], [tuple] * len(asked))
            self.assertEqual(least_many(web), len(asked[0]))
            self.assertEqual(least_count(web), len(asked))

    def test_numbers_there_and_back(self):
        for web in mixed_webs() + [ring_web(7, 2), knot_web(6, 3)]:
            for number, seeds in enumerate(least_by_words(web)):
                self.assertEqual(least_numbered(web, number), seeds)
                self.assertEqual(number_of_least(web, seeds), number)
                self.assertEqual(number_of_least(web, list(seeds)), number)
        self.assertEqual(least_numbered(knot_web(12, 6), 923), (6, 7, 8, 9, 10, 11))
        self.assertEqual(number_of_least(knot_web(12, 6), (0, 1, 2, 3, 4, 6)), 1)

    def test_numbers_that_are_none(self):
        for web in (EMPTY, row_web(4, 1), ring_web(5, 2), knot_web(12, 6)):
            many = least_count(web)
            for number in (-1, -many, -many - 1, many, many + 1, FAR, -FAR):
                with self.assertRaises(NoSuch):
                    least_numbered(web, number)

    def test_seeds_that_are_not_least(self):
        web = ring_web(4, 2)
        for seeds in ((), (0,), (0, 1), (0, 1, 2), [0, 2, 3], (0, 1, 2, 3)):
            with self.assertRaises(NoSuch):
                number_of_least(web, seeds)
        for web in mixed_webs()[:12]:
            asked = least_by_words(web)
            for seeds in sets_of(hearths_in(web)):
                if seeds not in asked:
                    with self.assertRaises(NoSuch):
                        number_of_least(web, seeds)

    def test_wrong_sets_first(self):
        for wrong in wrong_sets(4):
            for told in (wrong, tuple(wrong)):
                with self.assertRaises(BadSet):
                    number_of_least(ring_web(4, 2), told)
        with self.assertRaises(BadSet):
            number_of_least(EMPTY, (0,))


class Cheapest(unittest.TestCase):
    def test_edges(self):
        self.assertEqual(cheapest(EMPTY, []), ())
        self.assertEqual(cheapest(EMPTY, ()), ())
        self.assertEqual(cheapest(row_web(3, 0), [0, 0, 0]), ())
        self.assertEqual(cheapest(row_web(3, 9), (5, 0, FAR)), (0, 1, 2))

    def test_the_least_price(self):
        web = row_web(5, 1)
        self.assertEqual(cheapest(web, [3, 2, 5, 1, 4]), (3,))
        self.assertEqual(cheapest(web, (3, 2, 5, 2, 4)), (1,))
        star = made_web([3, 1, 1, 1], [(0, 1), (0, 2), (0, 3)])
        self.assertEqual(cheapest(star, [9, 3, 3, 4]), (0,))
        self.assertEqual(cheapest(ring_web(4, 2), [5, 1, 5, 2]), (1, 3))

    def test_equal_prices(self):
        self.assertEqual(cheapest(ring_web(4, 2), [7] * 4), (0, 2))
        self.assertEqual(cheapest(ring_web(5, 2), (1,) * 5), (0, 1, 3))
        pair = made_web([1, 2, 1, 1], [(0, 1), (2, 3)])
        self.assertEqual(cheapest(pair, [2, 2, 1, 1]), (1, 2))

    def test_prices_of_nought_leave_the_least_tuple(self):
        self.assertEqual(cheapest(row_web(3, 1), [0, 0, 0]), (0,))
        # All of (0, 1), (0, 1, 2) and (1,) light the web for nothing; the first one is the least tuple.
        web = made_web([1, 2, 1], [(0, 1), (1, 2)])
        self.assertEqual(cheapest(web, (0, 0, 0)), (0, 1))
        self.assertEqual(cheapest(web, (0, 3, 0)), (0, 2))

    def test_large_prices(self):
        web = ring_web(4, 2)
        self.assertEqual(cheapest(web, [FAR, FAR, FAR + 1, FAR]), (1, 3))
        self.assertEqual(cheapest(web, [FAR, FAR + 1, FAR, FAR]), (0, 2))
        self.assertEqual(cheapest(web, [10 ** 60 - 1] * 4), (0, 2))

    def test_by_the_words(self):
        for web in small_webs()[::3] + mixed_webs():
            many = hearths_in(web)
            for prices in ([1] * many, list(range(many)), [(7 * k + 3) % 5 for k in range(many)], [0] * many):
                asked = cheapest_by_words(web, prices)
                self.assertEqual(cheapest(web, prices), asked)
                self.assertEqual(cheapest(web, tuple(prices)), asked)
        web = ring_web(4, 2)
        for prices in product(range(3), repeat=4):
            self.assertEqual(cheapest(web, prices), cheapest_by_words(web, prices))

    def test_wrong_prices(self):
        for wrong in wrong_prices(4):
            for told in (wrong, tuple(wrong)):
                with self.assertRaises(BadPrices):
                    cheapest(row_web(4, 1), told)
        for wrong in ([1], [-1]):
            with self.assertRaises(BadPrices):
                cheapest(EMPTY, wrong)


class BlocksApart(unittest.TestCase):
    def held(self, web):
        told = blocks_apart(web)
        self.assertIs(type(told), list)
        for block in told:
            self.assertIs(type(block), tuple)
            self.assertEqual(block, tuple(sorted(set(block))))
            self.assertTrue(block)
            self.assertTrue(cold_by_words(web, block))
        for one, other in combinations(told, 2):
            self.assertFalse(set(one) & set(other))
        return len(told)

    def test_none(self):
        self.assertEqual(blocks_apart(EMPTY), [])
        self.assertEqual(blocks_apart(row_web(12, 0)), [])

    def test_counts(self):
        self.assertEqual(self.held(made_web([1] * 12, [])), 12)
        self.assertEqual(self.held(knot_web(12, 11)), 6)
        self.assertEqual(self.held(knot_web(12, 8)), 2)
        self.assertEqual(self.held(knot_web(12, 6)), 1)
        self.assertEqual(self.held(ring_web(11, 2)), 5)
        self.assertEqual(self.held(row_web(12, 1)), 1)

    def test_a_block_that_stands_in_the_way(self):
        # The pair (0, 1) comes first among the blocks, but meets both others.
        web = made_web([2, 2, 1, 1], [(0, 1), (0, 2), (1, 3)])
        self.assertEqual(self.held(web), 2)
        self.assertEqual(self.held(made_web([2] * 6, [(0, 1), (0, 2), (1, 3), (2, 4), (3, 5)])), 4)

    def test_as_many_as_any(self):
        for web in small_webs()[::2] + mixed_webs()[::4] + mixed_webs()[1::4]:
            many = self.held(web)
            self.assertEqual(many, most_apart(web))
            self.assertLessEqual(many, least_many(web))


class TooGreat(unittest.TestCase):
    CALLS = ((least_many, ()), (all_least, ()), (least_count, ()), (least_numbered, (0,)), (least_numbered, (-1,)),
             (least_numbered, (FAR,)), (number_of_least, ((0,),)), (number_of_least, ((1, 0),)),
             (number_of_least, ((),)), (number_of_least, ([40],)), (cheapest, ([1] * 13,)), (cheapest, ([],)),
             (cheapest, ([-1] * 13,)), (blocks_apart, ()))

    def test_thirteen_ahead_of_all_else(self):
        for web in (row_web(13, 1), made_web([0] * 13, []), knot_web(40, 60)):
            for call, more in self.CALLS:
                with self.assertRaises(TooMany):
                    call(web, *more)

    def test_twelve(self):
        web = row_web(12, 1)
        self.assertEqual(least_many(web), 1)
        self.assertEqual(all_least(web), [(k,) for k in range(12)])
        self.assertEqual(least_count(web), 12)
        self.assertEqual(least_numbered(web, 11), (11,))
        self.assertEqual(number_of_least(web, (7,)), 7)
        self.assertEqual(cheapest(web, list(range(12, 0, -1))), (11,))
        self.assertEqual(blocks_apart(web), [tuple(range(12))])


class WhatIsHandedIn(unittest.TestCase):
    def test_lists_stay_and_are_not_kept(self):
        web = ring_web(4, 2)
        prices = [3, 1, 3, 1]
        seeds = [0, 2]
        told = (cheapest(web, prices), number_of_least(web, seeds))
        self.assertEqual((prices, seeds), ([3, 1, 3, 1], [0, 2]))
        prices.clear()
        seeds[1] = 3
        self.assertEqual(told, ((1, 3), 0))
        self.assertEqual(cheapest(web, [1, 3, 1, 3]), (0, 2))

    def test_what_is_told_can_be_changed(self):
        web = ring_web(4, 2)
        all_least(web).pop()
        blocks_apart(web).clear()
        self.assertEqual(all_least(web), [(0, 2), (1, 3)])
        self.assertEqual(len(blocks_apart(web)), 2)
        self.assertTrue(lights_all(web, least_numbered(web, 1)))


if __name__ == "__main__":
    unittest.main()
