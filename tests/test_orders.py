import unittest
from itertools import permutations
from math import factorial

from kindleweb.errors import BadOrder, BadSet, NoSuch, TooMany
from kindleweb.orders import first_order, is_order, is_row, number_of_order, order_many, order_numbered
from kindleweb.webs import hearths_in, made_web
from tests.samples import (FAR, burnt_by_words, knot_web, mixed_webs, neighbours, ring_web, row_web, sets_of,
                           small_webs, wrong_sets)

EMPTY = ((), ())


def row_by_words(web, seeds, row):
    burning = set(seeds)
    for hearth in row:
        if hearth in burning or len(set(neighbours(web, hearth)) & burning) < web[0][hearth]:
            return False
        burning.add(hearth)
    return True


def orders_by_words(web, seeds):
    later = sorted(set(burnt_by_words(web, seeds)) - set(seeds))
    rows = [()]
    for _ in later:
        rows = [row + (k,) for row in rows for k in later if k not in row
                and len(set(neighbours(web, k)) & set(seeds + row)) >= web[0][k]]
    return rows


class Rows(unittest.TestCase):
    WEB = made_web([1, 1, 2, 1, 3], [(0, 1), (1, 2), (2, 3), (0, 3), (3, 4)])

    def test_rows(self):
        for row in ((), [], (1,), [3], (1, 3), (3, 1, 2), [1, 3, 2]):
            self.assertIs(is_row(self.WEB, [0], row), True)

    def test_no_rows(self):
        # With a seed, twice, out of turn, one that stays cold, no hearths.
        for row in ((0,), (1, 0), (1, 1), (1, 3, 1), (2,), (1, 2), [2, 1, 3], (4,), (1, 3, 2, 4), (-1,), (-4,), [1, -2],
                    (5,), (1, 5), (FAR,), (-FAR,), (1, 3, 2, FAR)):
            self.assertIs(is_row(self.WEB, (0,), row), False)
            self.assertIs(is_order(self.WEB, (0,), row), False)

    def test_orders(self):
        for row in ((1, 3, 2), [3, 1, 2]):
            self.assertIs(is_order(self.WEB, [0], row), True)
        for row in ((), (1,), [1, 3], (3, 1)):
            self.assertIs(is_order(self.WEB, (0,), row), False)

    def test_empty_row(self):
        self.assertIs(is_row(EMPTY, (), ()), True)
        self.assertIs(is_order(EMPTY, [], []), True)
        self.assertIs(is_order(row_web(3, 1), (), ()), True)
        self.assertIs(is_order(row_web(3, 1), (1,), ()), False)
        self.assertIs(is_row(EMPTY, (), (0,)), False)
        self.assertIs(is_row(EMPTY, (), (-1,)), False)

    def test_all_seeds(self):
        web = row_web(3, 0)
        self.assertIs(is_order(web, (0, 1, 2), ()), True)
        self.assertIs(is_row(web, (0, 1, 2), (0,)), False)

    def test_by_the_words(self):
        for web in small_webs()[:-40:4] + mixed_webs()[::4][:6]:
            many = hearths_in(web)
            for seeds in sets_of(many):
                burning = burnt_by_words(web, seeds)
                for size in range(many + 1):
                    for row in permutations(range(many), size):
                        right = row_by_words(web, seeds, row)
                        self.assertIs(is_row(web, seeds, row), right)
                        self.assertIs(is_order(web, seeds, list(row)),
                                      right and len(row) + len(seeds) == len(burning))

    def test_great_ones(self):
        web = row_web(40, 1)
        self.assertIs(is_order(web, (0,), tuple(range(1, 40))), True)
        self.assertIs(is_row(web, [0], list(range(1, 39))), True)
        self.assertIs(is_order(web, [0], list(range(1, 39))), False)
        self.assertIs(is_row(web, (0,), tuple(range(39, 0, -1))), False)


class Orders(unittest.TestCase):
    def test_nothing_kindles(self):
        for web, seeds in ((EMPTY, ()), (row_web(3, 1), []), (row_web(3, 0), (0, 1, 2)), (knot_web(40, 60), (3, 5)),
                           (row_web(40, 2), [0])):
            self.assertEqual(first_order(web, seeds), ())
            self.assertEqual(order_many(web, seeds), 1)
            self.assertEqual(order_numbered(web, seeds, 0), ())
            self.assertEqual(number_of_order(web, seeds, []), 0)

    def test_one_way_alone(self):
        web = row_web(12, 1)
        self.assertEqual(first_order(web, [0]), tuple(range(1, 12)))
        self.assertEqual(order_many(web, [0]), 1)

    def test_two_sides(self):
        web = row_web(5, 1)
        orders = [(1, 0, 3, 4), (1, 3, 0, 4), (1, 3, 4, 0), (3, 1, 0, 4), (3, 1, 4, 0), (3, 4, 1, 0)]
        self.assertEqual(order_many(web, (2,)), 6)
        self.assertEqual([order_numbered(web, [2], number) for number in range(6)], orders)
        self.assertEqual([number_of_order(web, [2], order) for order in orders], list(range(6)))
        self.assertEqual(first_order(web, (2,)), orders[0])

    def test_by_the_words(self):
        for web in small_webs()[:-40:2] + mixed_webs()[::2][:12]:
            for seeds in sets_of(hearths_in(web)):
                orders = orders_by_words(web, seeds)
                self.assertEqual(order_many(web, seeds), len(orders))
                self.assertEqual(first_order(web, list(seeds)), orders[0])
                self.assertIs(type(first_order(web, seeds)), tuple)

    def test_numbers_there_and_back(self):
        for web in mixed_webs()[:12] + [knot_web(5, 2), ring_web(5, 1)]:
            for seeds in [some for some in sets_of(hearths_in(web)) if len(some) in (1, 2)][::3]:
                for number, order in list(enumerate(orders_by_words(web, seeds)))[:60]:
                    told = order_numbered(web, list(seeds), number)
                    self.assertEqual(told, order)
                    self.assertIs(type(told), tuple)
                    self.assertEqual(number_of_order(web, seeds, order), number)
                    self.assertEqual(number_of_order(web, list(seeds), list(order)), number)

    def test_numbers_that_are_none(self):
        for web, seeds, many in ((row_web(5, 1), (2,), 6), (EMPTY, (), 1), (knot_web(40, 60), [1], 1),
                                 (made_web([0] * 12, []), (), factorial(12))):
            for number in (-1, -many, -many - 1, many, many + 1, FAR, -FAR):
                with self.assertRaises(NoSuch):
                    order_numbered(web, seeds, number)

    def test_rows_that_are_no_orders(self):
        for row in ((), (1,), [1, 3, 4], (0, 1, 3, 4), (1, 3, 4, 0, 2), (2, 1, 3, 4), (1, 1, 3, 4), (1, 0, 3, 5),
                    (1, 0, 3, -1), (FAR,)):
            for told in (tuple(row), list(row)):
                with self.assertRaises(BadOrder):
                    number_of_order(row_web(5, 1), (2,), told)

    def test_twelve_and_thirteen_that_kindle(self):
        twelve = made_web([0] * 12 + [9] * 28, [])
        backwards = tuple(range(11, -1, -1))
        self.assertEqual(order_many(twelve, ()), factorial(12))
        self.assertEqual(order_numbered(twelve, [20], factorial(12) - 1), backwards)
        self.assertEqual(number_of_order(twelve, (12, 39), list(backwards)), factorial(12) - 1)
        self.assertEqual(order_many(row_web(13, 1), (0,)), 1)

    def test_thirteen_are_too_many(self):
        thirteen = made_web([0] * 13 + [9] * 27, [])
        for seeds in ((), [13], (20, 39)):
            with self.assertRaises(TooMany):
                order_many(thirteen, seeds)
            for number in (0, -1, FAR):
                with self.assertRaises(TooMany):
                    order_numbered(thirteen, seeds, number)
            for row in ((), (0, 0), tuple(range(13)), [-1]):
                with self.assertRaises(TooMany):
                    number_of_order(thirteen, seeds, row)
            self.assertEqual(first_order(thirteen, seeds), tuple(range(13)))
        self.assertEqual(order_many(thirteen, (0,)), factorial(12))
        self.assertEqual(first_order(row_web(40, 1), [39]), tuple(range(38, -1, -1)))

    def test_each_row_goes_on_to_an_order(self):
        for web in mixed_webs()[:12]:
            for seeds in sets_of(hearths_in(web))[::5]:
                begins = {order[:2] for order in orders_by_words(web, seeds)}
                burning = set(burnt_by_words(web, seeds))
                for row in permutations(range(hearths_in(web)), 2):
                    if is_row(web, seeds, row):
                        self.assertTrue(set(row) <= burning)
                        self.assertIn(row, begins)


class Refused(unittest.TestCase):
    def test_wrong_sets_ahead_of_all_else(self):
        for web in (row_web(4, 1), made_web([0] * 13, [])):
            for wrong in wrong_sets(hearths_in(web)):
                for seeds in (wrong, tuple(wrong)):
                    for call in (first_order, order_many):
                        with self.assertRaises(BadSet):
                            call(web, seeds)
                    for call in (is_row, is_order, number_of_order):
                        for row in ((), (0, 0), [FAR], (0, 1, 2, 3)):
                            with self.assertRaises(BadSet):
                                call(web, seeds, row)
                    for number in (0, -1, FAR):
                        with self.assertRaises(BadSet):
                            order_numbered(web, seeds, number)


class WhatIsHandedIn(unittest.TestCase):
    def test_lists_stay_and_are_not_kept(self):
        web = row_web(5, 1)
        seeds = [2]
        row = [3, 1, 0, 4]
        told = (is_row(web, seeds, row), is_order(web, seeds, row), first_order(web, seeds), order_many(web, seeds),
                order_numbered(web, seeds, 3), number_of_order(web, seeds, row))
        self.assertEqual((seeds, row), ([2], [3, 1, 0, 4]))
        seeds.clear()
        row.clear()
        self.assertEqual(told, (True, True, (1, 0, 3, 4), 6, (3, 1, 0, 4), 3))
        self.assertEqual(order_many(web, [2]), 6)


if __name__ == "__main__":
    unittest.main()
