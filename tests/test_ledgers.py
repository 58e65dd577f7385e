import unittest
from itertools import product

from kindleweb.errors import BadPrices, NoPaper, NotWood
from kindleweb.ledgers import best_ledger, judged_ledger, wood_cheapest
from kindleweb.webs import hearths_in, made_web
from kindleweb.woods import elders_of
from tests.samples import (FAR, burnt_by_words, knot_web, lighting_by_words, mixed_woods, neighbours, ring_web, row_web,
                           small_woods, wrong_prices)

EMPTY = ((), ())
STAR = made_web([2, 1, 1, 1], [(0, 1), (0, 2), (0, 3)])


def children(web, hearth):
    return [k for k in neighbours(web, hearth) if k != elders_of(web)[hearth]]


def right_by_words(web, prices, ledger):
    """The four rules of [6.3], one by one."""
    for hearth, (a, b) in enumerate(ledger):
        want = web[0][hearth]
        below = [ledger[k] for k in children(web, hearth)]
        base = sum(less for less, more in below)
        gaps = sorted(more - less for less, more in below)
        if not 0 <= a <= b or b > prices[hearth] + base:
            return False
        if want == 0 and (a > base or b > base):
            return False
        if want > 0 and len(below) >= want - 1 and a > base + sum(gaps[:want - 1]):
            return False
        if len(below) >= want and b > base + sum(gaps[:want]):
            return False
    return True


def bough_price(web, prices, hearth, less):
    """The least price of seeds that light the web of a bough, the hearth itself wanting so many less."""
    bough = [hearth]
    for k in bough:
        bough.extend(children(web, k))
    bough.sort()
    wants = [max(0, web[0][k] - less) if k == hearth else web[0][k] for k in bough]
    links = [(bough.index(one), bough.index(other)) for one, other in web[1] if one in bough and other in bough]
    lighting = lighting_by_words(made_web(wants, links))
    return min(sum(prices[bough[k]] for k in seeds) for seeds in lighting)


def some_prices(many):
    return ([1] * many, [0] * many, list(range(many, 0, -1)), [(5 * k + 2) % 7 for k in range(many)],
            [FAR if k % 2 else 0 for k in range(many)])


class BestLedger(unittest.TestCase):
    def test_edges(self):
        self.assertEqual(best_ledger(EMPTY, []), ())
        self.assertEqual(best_ledger(((0,), ()), (7,)), ((0, 0),))
        self.assertEqual(best_ledger(((1,), ()), [7]), ((0, 7),))
        self.assertEqual(best_ledger(((2,), ()), [7]), ((7, 7),))
        self.assertEqual(best_ledger(((60,), ()), [FAR]), ((FAR, FAR),))
        self.assertEqual(best_ledger(row_web(4, 0), [1, 2, 3, 4]), ((0, 0),) * 4)

    def test_ordinary(self):
        self.assertEqual(best_ledger(row_web(3, 1), [5, 3, 4]), ((0, 3), (0, 3), (0, 4)))
        self.assertEqual(best_ledger(STAR, [9, 2, 3, 4]), ((2, 5), (0, 2), (0, 3), (0, 4)))
        self.assertEqual(best_ledger(STAR, [1, 2, 3, 4]), ((1, 1), (0, 2), (0, 3), (0, 4)))
        self.assertEqual(best_ledger(row_web(40, 1), [FAR] * 40), ((0, FAR),) * 40)

    def test_least_prices_of_the_boughs(self):
        for web in small_woods()[::3] + mixed_woods()[:24]:
            for prices in some_prices(hearths_in(web)):
                told = best_ledger(web, prices)
                self.assertEqual(told, tuple((bough_price(web, prices, k, 1), bough_price(web, prices, k, 0))
                                             for k in range(hearths_in(web))))
                self.assertEqual(best_ledger(web, tuple(prices)), told)
                self.assertEqual([type(part) for part in (told,) + told], [tuple] * (1 + len(told)))
                self.assertTrue(right_by_words(web, prices, told))

    def test_none_greater(self):
        for web in (row_web(2, 1), row_web(2, 2), row_web(2, 0), made_web([1, 2], [(0, 1)]), made_web([1, 3], [])):
            for prices in ((0, 2), (1, 1), (2, 1), (2, 2)):
                pairs = list(product(range(5), repeat=2))
                right = [pair for pair in product(pairs, repeat=2) if right_by_words(web, prices, pair)]
                most = tuple((max(ledger[k][0] for ledger in right), max(ledger[k][1] for ledger in right))
                             for k in range(2))
                self.assertEqual(best_ledger(web, prices), most)


class JudgedLedger(unittest.TestCase):
    def test_right_ones(self):
        self.assertEqual(judged_ledger(EMPTY, (), ()), 0)
        self.assertEqual(judged_ledger(STAR, [9, 2, 3, 4], ((2, 5), (0, 2), (0, 3), (0, 4))), 5)
        self.assertEqual(judged_ledger(STAR, (9, 2, 3, 4), [(0, 0)] * 4), 0)
        self.assertEqual(judged_ledger(STAR, [9, 2, 3, 4], [(1, 4), (0, 2), (0, 2), (0, 4)]), 4)
        self.assertEqual(judged_ledger(made_web([1, 1, 2], [(1, 2)]), [FAR, 5, 7], [(0, FAR), (0, 3), (0, 7)]), FAR + 3)

    def test_not_right(self):
        prices = [9, 2, 3, 4]
        right = ((2, 5), (0, 2), (0, 3), (0, 4))
        for place, wrong in ((0, (3, 5)), (0, (2, 6)), (0, (-1, 5)), (0, (2, 1)), (1, (1, 2)), (1, (0, 3)), (2, (0, 4)),
                             (3, (0, -1)), (3, (-1, 4)), (3, (-1, -1)), (0, (-FAR, FAR)), (1, (0, FAR)), (0, (0, FAR))):
            ledger = list(right)
            ledger[place] = wrong
            for told in (ledger, tuple(ledger)):
                with self.assertRaises(NoPaper):
                    judged_ledger(STAR, prices, told)

    def test_held_by_the_price_alone(self):
        web = ((3,), ())
        self.assertEqual(judged_ledger(web, [4], [(4, 4)]), 4)
        self.assertEqual(judged_ledger(web, [4], [(0, 4)]), 4)
        for wrong in ((4, 5), (5, 5), (5, 4), (-1, 4)):
            with self.assertRaises(NoPaper):
                judged_ledger(web, [4], [wrong])

    def test_another_count_of_pairs(self):
        for ledger in ((), [(0, 0)], ((0, 0),) * 3, [(0, 0)] * 5):
            with self.assertRaises(NoPaper):
                judged_ledger(STAR, [1] * 4, ledger)
        with self.assertRaises(NoPaper):
            judged_ledger(EMPTY, [], ((0, 0),))

    def test_all_small_ledgers(self):
        pairs = list(product(range(-1, 4), repeat=2))
        for web, prices in ((row_web(2, 1), (2, 1)), (row_web(2, 2), (1, 2)), (row_web(2, 0), (1, 1)),
                            (made_web([2, 1], [(0, 1)]), (1, 3)), (made_web([1, 0], []), (2, 2)),
                            (made_web([1, 2], [(0, 1)]), (3, 0)), (made_web([3, 1], [(0, 1)]), (0, 1))):
            for ledger in product(pairs, repeat=2):
                self.judged(web, prices, ledger)

    def test_some_greater_ledgers(self):
        for web in mixed_woods()[:20]:
            many = hearths_in(web)
            prices = [(5 * k + 2) % 7 for k in range(many)]
            best = best_ledger(web, prices)
            self.assertEqual(self.judged(web, prices, best), True)
            for place in range(many):
                a, b = best[place]
                for pair in ((a + 1, b), (a, b + 1), (a - 1, b), (a, b - 1), (a + 1, b + 1), (0, 0), (0, b), (a, a)):
                    self.judged(web, prices, best[:place] + (pair,) + best[place + 1:])

    def judged(self, web, prices, ledger):
        right = right_by_words(web, prices, ledger)
        if right:
            roots = [k for k, elder in enumerate(elders_of(web)) if elder is None]
            bound = judged_ledger(web, prices, ledger)
            self.assertEqual(bound, sum(ledger[k][1] for k in roots))
            self.assertEqual(judged_ledger(web, list(prices), list(ledger)), bound)
        else:
            with self.assertRaises(NoPaper):
                judged_ledger(web, prices, ledger)
        return right


class WoodCheapest(unittest.TestCase):
    def test_edges(self):
        self.assertEqual(wood_cheapest(EMPTY, ()), ())
        self.assertEqual(wood_cheapest(row_web(3, 0), [1, 2, 3]), ())
        self.assertEqual(wood_cheapest(row_web(3, 9), (0, FAR, 1)), (0, 1, 2))

    def test_ordinary(self):
        self.assertEqual(wood_cheapest(row_web(4, 1), [5, 3, 4, 6]), (1,))
        self.assertEqual(wood_cheapest(STAR, [9, 2, 3, 4]), (1, 2))
        self.assertEqual(wood_cheapest(STAR, (4, 2, 3, 4)), (0,))
        self.assertEqual(wood_cheapest(row_web(3, 2), [FAR, 1, FAR]), (0, 2))

    def test_of_the_least_price(self):
        for web in small_woods()[::2] + mixed_woods():
            for prices in some_prices(hearths_in(web)):
                seeds = wood_cheapest(web, prices)
                lighting = lighting_by_words(web)
                price = sum(prices[k] for k in seeds)
                self.assertIn(seeds, lighting)
                self.assertEqual(price, min(sum(prices[k] for k in some) for some in lighting))
                self.assertEqual(price, judged_ledger(web, prices, best_ledger(web, prices)))
                self.assertEqual(wood_cheapest(web, tuple(prices)), seeds)

    def test_forty_hearths(self):
        for want in range(4):
            for web in (row_web(40, want), made_web([want] * 40, [(k, (k - 1) // 3) for k in range(1, 40)]),
                        made_web([want] * 40, [(k, (7 * k + 3) % k) for k in range(1, 40) if k % 9])):
                for prices in some_prices(40):
                    seeds = wood_cheapest(web, prices)
                    self.assertEqual(seeds, tuple(sorted(set(seeds))))
                    self.assertEqual(len(burnt_by_words(web, seeds)), 40)
                    self.assertEqual(sum(prices[k] for k in seeds), judged_ledger(web, prices, best_ledger(web, prices)))


class Refused(unittest.TestCase):
    def asked(self, web, prices):
        yield lambda: best_ledger(web, prices)
        yield lambda: wood_cheapest(web, prices)
        for ledger in ((), [(0, 0)] * 4, ((9, -9),) * hearths_in(web)):
            yield lambda: judged_ledger(web, prices, ledger)

    def test_no_wood_first(self):
        for web in (ring_web(4, 1), knot_web(40, 2), made_web([1] * 4, [(1, 2), (2, 3), (1, 3)])):
            for prices in [[1] * hearths_in(web), (2,) * 4] + wrong_prices(4):
                for call in self.asked(web, prices):
                    with self.assertRaises(NotWood):
                        call()

    def test_then_wrong_prices(self):
        for wrong in wrong_prices(4):
            for prices in (wrong, tuple(wrong)):
                for call in self.asked(STAR, prices):
                    with self.assertRaises(BadPrices):
                        call()
        for call in self.asked(EMPTY, [1]):
            with self.assertRaises(BadPrices):
                call()


class WhatIsHandedIn(unittest.TestCase):
    def test_lists_stay_and_are_not_kept(self):
        prices = [9, 2, 3, 4]
        ledger = [(2, 5), (0, 2), (0, 3), (0, 4)]
        told = (best_ledger(STAR, prices), judged_ledger(STAR, prices, ledger), wood_cheapest(STAR, prices))
        self.assertEqual((prices, ledger), ([9, 2, 3, 4], [(2, 5), (0, 2), (0, 3), (0, 4)]))
        prices.clear()
        ledger.clear()
        self.assertEqual(told, (((2, 5), (0, 2), (0, 3), (0, 4)), 5, (1, 2)))


if __name__ == "__main__":
    unittest.main()
