import unittest
from itertools import product

from kindleweb.errors import BadPrices, BadSet, NoSuch, TooMany
from kindleweb.pledges import best_plain, dues, is_within, pledge_bound, pledge_reach, takings
from kindleweb.webs import made_web
from tests.samples import (FAR, burnt_by_words, knot_web, mixed_webs, ring_web, row_web, sets_of, small_webs,
                           wrong_prices, wrong_sets)

EMPTY = ((), ())
# Wants none, one, two, and more than it has neighbours.
MIXED = made_web([0, 1, 2, 4, 1], [(0, 1), (0, 2), (1, 2), (2, 3)])


def some_weights(web):
    many = len(web[1])
    return ([0] * many, (1,) * many, list(range(many)), tuple(range(many, 0, -1)),
            [(5 * k + 2) % 7 for k in range(many)], [FAR if k % 2 else 0 for k in range(many)])


def weights_at(web, weights, hearth):
    return [weight for link, weight in zip(web[1], weights) if hearth in link]


def due_by_words(web, weights, hearth):
    beside = sorted(weights_at(web, weights, hearth))
    return sum(beside[:web[0][hearth]]) if web[0][hearth] <= len(beside) else None


def bound_by_words(web, weights):
    told = dues(web, weights)
    ordered = [None] * told.count(None) + sorted((due for due in told if due is not None), reverse=True)
    return min(k for k in range(told.count(None), len(told) + 1) if sum(ordered[k:]) <= sum(weights))


def reach_by_words(web, weights, many):
    known = sorted(due for due in dues(web, weights) if due is not None)
    borne = max(k for k in range(len(known) + 1) if sum(known[:k]) <= sum(weights))
    return min(len(web[0]), many + borne)


class Dues(unittest.TestCase):
    def test_edges(self):
        self.assertEqual(dues(EMPTY, []), [])
        self.assertEqual(dues(((0, 1, 60), ()), ()), [0, None, None])

    def test_ordinary(self):
        self.assertEqual(dues(MIXED, [5, 3, 4, 7]), [0, 4, 7, None, None])
        self.assertEqual(dues(MIXED, (0, 0, 0, 0)), [0, 0, 0, None, None])
        self.assertEqual(dues(MIXED, [2, 2, 2, 2]), [0, 2, 4, None, None])
        self.assertEqual(dues(MIXED, [FAR, FAR, FAR, FAR]), [0, FAR, 2 * FAR, None, None])
        self.assertEqual(dues(ring_web(3, 2), [1, 2, 4]), [3, 5, 6])

    def test_by_the_words(self):
        for web in small_webs():
            for weights in some_weights(web):
                told = dues(web, weights)
                self.assertIs(type(told), list)
                self.assertEqual(told, [due_by_words(web, weights, k) for k in range(len(web[0]))])


class Takings(unittest.TestCase):
    def test_edges(self):
        self.assertEqual(takings(EMPTY, (), ()), [])
        self.assertEqual(takings(((0, 1), ()), [], []), [0, None])
        self.assertEqual(takings(((5, 1), ((0, 1),)), [9], [0]), [0, 9])
        self.assertEqual(takings(((5, 1), ((0, 1),)), [9], [0, 1]), [0, 0])
        self.assertEqual(takings(((5, 1), ((0, 1),)), [9], []), [None, None])

    def test_ordinary(self):
        # The hearth 0 burns by itself, 1 by it, and 2 by the two.
        self.assertEqual(takings(MIXED, [5, 3, 4, 7], ()), [0, 5, 7, None, None])
        # By the seed 3 the hearths 1 and 2 kindle in one round, so none of them takes the link of the two.
        self.assertEqual(takings(MIXED, [5, 3, 4, 7], (3,)), [0, 5, 10, 0, None])
        # It takes more than its due where more burned earlier, and not the links within a round.
        self.assertEqual(takings(knot_web(4, 1), [1, 2, 4, 8, 16, 32], [0, 1]), [0, 0, 10, 20])
        self.assertEqual(takings(row_web(4, 1), [1, 2, 4], [0, 3]), [0, 1, 4, 0])

    def test_by_the_words(self):
        for web in small_webs()[::3] + mixed_webs():
            for seeds in sets_of(len(web[0])):
                ranks = burnt_by_words(web, seeds)
                for weights in some_weights(web)[2:5]:
                    self.right(web, weights, seeds, ranks)

    def right(self, web, weights, seeds, ranks):
        told = takings(web, weights, seeds)
        taken = [0] * len(web[0])
        for (one, other), weight in zip(web[1], weights):
            later = one if ranks.get(one, FAR) > ranks.get(other, FAR) else other
            if ranks.get(one) != ranks.get(other):
                taken[later] += weight
        self.assertEqual(told, [taken[k] if k in ranks else None for k in range(len(web[0]))])
        for hearth, due in enumerate(dues(web, weights)):
            if hearth in ranks and hearth not in seeds:
                self.assertGreaterEqual(told[hearth], due)
        within = sum(weight for (one, other), weight in zip(web[1], weights) if one in seeds and other in seeds)
        self.assertLessEqual(sum(taken for taken in told if taken is not None), sum(weights) - within)


class Within(unittest.TestCase):
    def test_edges(self):
        self.assertIs(is_within(EMPTY, [], ()), True)
        self.assertIs(is_within(((0, 1), ()), [], ()), False)
        self.assertIs(is_within(((0, 1), ()), [], [1]), True)
        self.assertIs(is_within(ring_web(3, 2), [0, 0, 0], ()), True)

    def test_ordinary(self):
        self.assertIs(is_within(ring_web(3, 2), [1, 1, 1], ()), False)
        self.assertIs(is_within(ring_web(3, 2), [1, 1, 1], [0]), False)
        self.assertIs(is_within(ring_web(3, 2), (1, 1, 1), [0, 1]), True)
        # Just as much as all weights.
        self.assertIs(is_within(row_web(3, 1), [1, 1], (0,)), True)

    def test_links_of_two_seeds_do_not_count(self):
        web = made_web([9, 9, 1, 1], [(0, 1), (2, 3)])
        self.assertIs(is_within(web, [100, 1], [0, 1]), False)
        self.assertIs(is_within(web, [100, 1], [0, 1, 2]), True)

    def test_hearths_without_a_due_are_seeds(self):
        web = made_web([9, 0, 0], [(0, 1), (1, 2)])
        self.assertIs(is_within(web, [1, 1], [1, 2]), False)
        self.assertIs(is_within(web, [1, 1], [0]), True)

    def test_by_the_words(self):
        found = {True: 0, False: 0}
        for web in small_webs()[::3] + mixed_webs():
            for weights in some_weights(web):
                told = dues(web, weights)
                for seeds in sets_of(len(web[0])):
                    others = [due for k, due in enumerate(told) if k not in seeds]
                    left = sum(weight for (one, other), weight in zip(web[1], weights)
                               if one not in seeds or other not in seeds)
                    asked = None not in others and sum(others) <= left
                    self.assertIs(is_within(web, weights, seeds), asked)
                    found[asked] += 1
        self.assertGreater(min(found.values()), 1000)

    def test_seeds_that_light_all_are_within(self):
        for web in small_webs()[::2] + mixed_webs():
            for seeds in sets_of(len(web[0])):
                if len(burnt_by_words(web, seeds)) == len(web[0]):
                    for weights in some_weights(web):
                        self.assertTrue(is_within(web, weights, seeds))


class BoundAndReach(unittest.TestCase):
    def test_edges(self):
        self.assertEqual(pledge_bound(EMPTY, []), 0)
        self.assertEqual(pledge_reach(EMPTY, [], 0), 0)
        self.assertEqual(pledge_bound(((0, 1, 1), ()), []), 2)
        self.assertEqual([pledge_reach(((0, 1, 1), ()), (), k) for k in range(4)], [1, 2, 3, 3])

    def test_ordinary(self):
        self.assertEqual(pledge_bound(ring_web(3, 2), [1, 1, 1]), 2)
        self.assertEqual(pledge_bound(ring_web(3, 2), [0, 0, 0]), 0)
        self.assertEqual(pledge_bound(knot_web(5, 4), [1] * 10), 3)
        self.assertEqual([pledge_reach(knot_web(5, 4), [1] * 10, k) for k in range(6)], [2, 3, 4, 5, 5, 5])
        # Just as much as all weights: two of the three dues, 1 and 1, of the weights 1 and 1.
        self.assertEqual(pledge_bound(row_web(3, 1), [1, 1]), 1)
        self.assertEqual(pledge_bound(row_web(40, 2), [1] * 39), 21)

    def test_those_without_a_due_go_first(self):
        web = made_web([9, 2, 1], [(0, 1), (1, 2)])
        self.assertEqual(dues(web, [5, 0]), [None, 5, 0])
        self.assertEqual(pledge_bound(web, [5, 0]), 1)
        self.assertEqual(pledge_reach(web, [5, 0], 0), 2)
        self.assertEqual(dues(web, [0, 5]), [None, 5, 5])
        self.assertEqual(pledge_bound(web, [0, 5]), 2)
        self.assertEqual(pledge_reach(web, [0, 5], 0), 1)

    def test_by_the_words(self):
        for web in small_webs():
            for weights in some_weights(web):
                self.assertEqual(pledge_bound(web, weights), bound_by_words(web, weights))
                for many in range(len(web[0]) + 1):
                    self.assertEqual(pledge_reach(web, weights, many), reach_by_words(web, weights, many))

    def test_beside_all_seeds(self):
        for web in small_webs()[::2] + mixed_webs():
            burning = [(len(seeds), len(burnt_by_words(web, seeds))) for seeds in sets_of(len(web[0]))]
            for weights in some_weights(web):
                bound = pledge_bound(web, weights)
                reach = [pledge_reach(web, weights, many) for many in range(len(web[0]) + 1)]
                for many, lit in burning:
                    self.assertLessEqual(lit, reach[many])
                    self.assertTrue(lit < len(web[0]) or many >= bound)

    def test_no_such_number(self):
        for web in (EMPTY, MIXED, knot_web(40, 3)):
            for many in (-1, len(web[0]) + 1, FAR, -FAR):
                with self.assertRaises(NoSuch):
                    pledge_reach(web, [1] * len(web[1]), many)
            self.assertEqual(pledge_reach(web, [1] * len(web[1]), len(web[0])), len(web[0]))


class BestPlain(unittest.TestCase):
    def test_edges(self):
        self.assertEqual(best_plain(EMPTY), [])
        self.assertEqual(best_plain(((0, 5, 60), ())), [])

    def test_ordinary(self):
        self.assertEqual(best_plain(row_web(2, 1)), [1])
        self.assertEqual(best_plain(row_web(2, 0)), [0])
        self.assertEqual(best_plain(row_web(2, 2)), [0])
        self.assertEqual(best_plain(ring_web(3, 2)), [1, 1, 1])

    def test_beside_all_plain_weights(self):
        for web in [web for web in small_webs() if len(web[1]) <= 8]:
            told = best_plain(web)
            self.assertIs(type(told), list)
            rows = [list(row) for row in product((0, 1), repeat=len(web[1]))]
            best = max(bound_by_words(web, row) for row in rows)
            self.assertEqual(told, min(row for row in rows if bound_by_words(web, row) == best))

    def test_eight_links_and_nine(self):
        self.assertEqual(len(best_plain(row_web(9, 1))), 8)
        self.assertEqual(len(best_plain(ring_web(8, 1))), 8)
        for web in (row_web(10, 1), ring_web(9, 2), knot_web(40, 39)):
            with self.assertRaises(TooMany):
                best_plain(web)


class Refused(unittest.TestCase):
    WITH_SEEDS = (takings, is_within)
    ALONE = (dues, pledge_bound, lambda web, weights: pledge_reach(web, weights, 0),
             lambda web, weights: pledge_reach(web, weights, -1))

    def test_wrong_weights(self):
        for web in (MIXED, row_web(3, 1), ring_web(5, 2)):
            for weights in wrong_prices(len(web[1])):
                for call in self.ALONE:
                    for handed in (weights, tuple(weights)):
                        with self.assertRaises(BadPrices):
                            call(web, handed)

    def test_wrong_weights_ahead_of_wrong_sets(self):
        for weights in wrong_prices(len(MIXED[1])):
            for seeds in [()] + wrong_sets(len(MIXED[0])):
                for call in self.WITH_SEEDS:
                    with self.assertRaises(BadPrices):
                        call(MIXED, weights, seeds)

    def test_wrong_sets(self):
        for seeds in wrong_sets(len(MIXED[0])):
            for call in self.WITH_SEEDS:
                for handed in (seeds, tuple(seeds)):
                    with self.assertRaises(BadSet):
                        call(MIXED, [1, 1, 1, 1], handed)

    def test_weights_for_no_links(self):
        for call in self.ALONE:
            with self.assertRaises(BadPrices):
                call(((0, 1), ()), [0])


class WhatIsHandedIn(unittest.TestCase):
    def test_lists_stay_and_can_be_changed(self):
        weights = [5, 3, 4, 7]
        seeds = [3, 4]
        told = [dues(MIXED, weights), takings(MIXED, weights, seeds), best_plain(MIXED)]
        is_within(MIXED, weights, seeds)
        pledge_bound(MIXED, weights)
        pledge_reach(MIXED, weights, 2)
        self.assertEqual((weights, seeds), ([5, 3, 4, 7], [3, 4]))
        same = [list(row) for row in told]
        weights.clear()
        seeds.clear()
        self.assertEqual(told, same)
        for row in told:
            row.clear()
        self.assertEqual([dues(MIXED, [5, 3, 4, 7]), takings(MIXED, [5, 3, 4, 7], [3, 4]), best_plain(MIXED)], same)


if __name__ == "__main__":
    unittest.main()
