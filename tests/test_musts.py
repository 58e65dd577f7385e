import unittest

from kindleweb.errors import BadSet, NoSuch
from kindleweb.musts import burnt_without, last_place, musts, order_with
from kindleweb.orders import is_order, order_many, order_numbered
from kindleweb.spread import burnt
from kindleweb.webs import hearths_in, made_web
from tests.samples import (FAR, burnt_by_words, knot_web, mixed_webs, neighbours, ring_web, row_web, sets_of,
                           small_webs, wrong_sets)

# The hearth 3 kindles by two of 0, 1 and 2, then 4 by it; 5 stays cold, or lights 4 as a seed.
WEB = made_web([0, 1, 1, 2, 1, 2], [(0, 1), (0, 2), (0, 3), (1, 3), (2, 3), (3, 4), (4, 5)])


def never_by_words(web, seeds, hearth):
    burning = set(seeds)
    while True:
        more = {k for k in range(len(web[0])) if k != hearth and k not in burning
                and len(set(neighbours(web, k)) & burning) >= web[0][k]}
        if not more:
            return tuple(sorted(burning))
        burning |= more


def part_by_words(web, burning, part):
    """The hearths of a part, each time the least one that can kindle."""
    row = []
    while len(row) < len(part):
        row.append(min(k for k in part if k not in row
                       and len(set(neighbours(web, k)) & (set(burning) | set(row))) >= web[0][k]))
    return tuple(row)


def order_by_words(web, seeds, one, other):
    first = set(never_by_words(web, seeds, other)) - set(seeds)
    if one not in first:
        return None
    row = part_by_words(web, seeds, first) + (other,)
    rest = set(burnt_by_words(web, seeds)) - set(seeds) - set(row)
    return row + part_by_words(web, seeds + row, rest)


def all_orders(web, seeds):
    return [order_numbered(web, seeds, number) for number in range(order_many(web, seeds))]


def asks(webs):
    for web in webs:
        for seeds in sets_of(hearths_in(web)):
            yield web, seeds, [k for k in sorted(burnt_by_words(web, seeds)) if k not in seeds]


class BurntWithout(unittest.TestCase):
    def test_ordinary(self):
        self.assertEqual(burnt_without(WEB, (), 0), ())
        self.assertEqual(burnt_without(WEB, [], 1), (0, 2, 3, 4))
        self.assertEqual(burnt_without(WEB, (), 3), (0, 1, 2))
        self.assertEqual(burnt_without(WEB, (), 5), (0, 1, 2, 3, 4))
        self.assertEqual(burnt_without(WEB, (5,), 0), (4, 5))
        self.assertEqual(burnt_without(row_web(40, 1), [0], 20), tuple(range(20)))
        self.assertEqual(burnt_without(knot_web(40, 0), (), 7), tuple(range(7)) + tuple(range(8, 40)))
        self.assertEqual(burnt_without(((0,), ()), (), 0), ())

    def test_by_the_words(self):
        for web, seeds, later in asks(small_webs()[::2] + mixed_webs()):
            for hearth in range(hearths_in(web)):
                if hearth not in seeds:
                    told = burnt_without(web, seeds, hearth)
                    self.assertEqual(told, never_by_words(web, seeds, hearth))
                    self.assertEqual(burnt_without(web, list(seeds), hearth), told)
                    self.assertIs(type(told), tuple)

    def test_no_such(self):
        for hearth in (-1, -6, 6, FAR, -FAR, 0, 5):
            with self.assertRaises(NoSuch):
                burnt_without(WEB, (0, 5), hearth)
        with self.assertRaises(NoSuch):
            burnt_without(((), ()), (), 0)


class Musts(unittest.TestCase):
    def test_none_must(self):
        for web, seeds in ((((), ()), ()), (row_web(3, 1), ()), (row_web(3, 0), []), (row_web(3, 1), (0, 1, 2)),
                           (knot_web(5, 1), (2,)), (row_web(3, 1), (0, 2))):
            self.assertEqual(musts(web, seeds), [])

    def test_some_must(self):
        self.assertEqual(musts(row_web(4, 1), [0]), [(1, 2), (1, 3), (2, 3)])
        self.assertEqual(musts(row_web(4, 1), [3]), [(1, 0), (2, 0), (2, 1)])
        self.assertEqual(musts(WEB, ()), [(0, 1), (0, 2), (0, 3), (0, 4), (3, 4)])
        self.assertEqual(musts(WEB, (0,)), [(3, 4)])
        self.assertEqual(musts(ring_web(6, 2), (0, 2, 4)), [])
        self.assertEqual(len(musts(row_web(40, 1), (0,))), 39 * 38 // 2)

    def test_beside_all_orders(self):
        for web, seeds, later in asks(small_webs()[:-40:3] + mixed_webs()[::4] + mixed_webs()[1:8:4]):
            orders = all_orders(web, seeds)
            asked = [(one, other) for one in later for other in later
                     if one != other and all(order.index(one) < order.index(other) for order in orders)]
            told = musts(web, seeds)
            self.assertEqual(told, asked)
            self.assertEqual(musts(web, list(seeds)), asked)
            self.assertTrue(all(type(pair) is tuple for pair in told))


class OrderWith(unittest.TestCase):
    def test_part_by_part(self):
        self.assertEqual(order_with(WEB, (), 0, 3), (0, 1, 2, 3, 4))
        self.assertEqual(order_with(WEB, (), 3, 1), (0, 2, 3, 4, 1))
        self.assertEqual(order_with(WEB, [], 4, 2), (0, 1, 3, 4, 2))
        self.assertEqual(order_with(WEB, (), 1, 2), (0, 1, 3, 4, 2))
        # The rest behind `other` is in the order of the least that can kindle, too.
        web = made_web([0, 1, 1, 0], [(0, 2), (1, 2)])
        self.assertEqual(order_with(web, (), 3, 0), (3, 0, 2, 1))
        self.assertEqual(order_with(row_web(5, 1), (2,), 4, 1), (3, 4, 1, 0))
        self.assertEqual(order_with(row_web(5, 1), (2,), 0, 3), (1, 0, 3, 4))

    def test_none(self):
        self.assertIsNone(order_with(WEB, (), 3, 0))
        self.assertIsNone(order_with(WEB, (), 4, 3))
        self.assertIsNone(order_with(row_web(40, 1), [0], 39, 1))
        self.assertIsNotNone(order_with(row_web(40, 1), [0], 1, 39))

    def test_great_one(self):
        self.assertEqual(order_with(knot_web(40, 0), (5,), 39, 0), tuple(range(1, 5)) + tuple(range(6, 40)) + (0,))

    def test_by_the_words(self):
        for web, seeds, later in asks(small_webs()[:-40:2] + mixed_webs()[::2]):
            must = musts(web, seeds)
            for one in later:
                for other in later:
                    if one != other:
                        told = order_with(web, seeds, one, other)
                        self.assertEqual(told, order_by_words(web, seeds, one, other))
                        self.assertEqual(order_with(web, list(seeds), one, other), told)
                        self.assertEqual(told is None, (other, one) in must)
                        if told is not None:
                            self.assertIs(type(told), tuple)
                            self.assertTrue(is_order(web, seeds, told))
                            self.assertLess(told.index(one), told.index(other))

    def test_no_such(self):
        # No hearths, a seed, one that stays cold, the same twice.
        self.assertEqual(burnt(WEB, (1,)), (0, 1, 2, 3, 4))
        for wrong in (-1, -5, 6, FAR, -FAR, 1, 5):
            for right in (0, 2, 3, 4, wrong):
                with self.assertRaises(NoSuch):
                    order_with(WEB, (1,), wrong, right)
                with self.assertRaises(NoSuch):
                    order_with(WEB, (1,), right, wrong)
        for same in (0, 2, 3, 4):
            with self.assertRaises(NoSuch):
                order_with(WEB, [1], same, same)


class LastPlace(unittest.TestCase):
    def test_ordinary(self):
        self.assertEqual([last_place(WEB, (), k) for k in range(5)], [0, 4, 4, 3, 4])
        self.assertEqual([last_place(WEB, [1], k) for k in (0, 2, 3, 4)], [0, 3, 2, 3])
        self.assertEqual([last_place(WEB, (1, 5), k) for k in (0, 2, 3, 4)], [3, 3, 3, 3])
        self.assertEqual(last_place(row_web(40, 1), (0,), 1), 0)
        self.assertEqual(last_place(row_web(40, 1), (0,), 39), 38)
        self.assertEqual(last_place(knot_web(40, 0), (), 0), 39)

    def test_beside_all_orders(self):
        for web, seeds, later in asks(small_webs()[:-40:3] + mixed_webs()[::4] + mixed_webs()[1:8:4]):
            orders = all_orders(web, seeds)
            for hearth in later:
                asked = max(order.index(hearth) for order in orders)
                self.assertEqual(last_place(web, seeds, hearth), asked)
                self.assertEqual(last_place(web, list(seeds), hearth), asked)

    def test_no_such(self):
        for hearth in (-1, -6, 6, FAR, -FAR, 1, 5):
            with self.assertRaises(NoSuch):
                last_place(WEB, (1,), hearth)


class Refused(unittest.TestCase):
    def test_wrong_sets_first(self):
        web = row_web(4, 1)
        for wrong in wrong_sets(4):
            for seeds in (wrong, tuple(wrong)):
                with self.assertRaises(BadSet):
                    musts(web, seeds)
                for hearth in (0, 1, 4, -1, FAR):
                    with self.assertRaises(BadSet):
                        burnt_without(web, seeds, hearth)
                    with self.assertRaises(BadSet):
                        last_place(web, seeds, hearth)
                    for other in (hearth, 2, 9):
                        with self.assertRaises(BadSet):
                            order_with(web, seeds, hearth, other)


class WhatIsHandedIn(unittest.TestCase):
    def test_lists_stay_and_are_not_kept(self):
        seeds = [1]
        told = (burnt_without(WEB, seeds, 3), musts(WEB, seeds), order_with(WEB, seeds, 4, 2), last_place(WEB, seeds, 4))
        self.assertEqual(seeds, [1])
        seeds.clear()
        self.assertEqual(told, ((0, 1, 2), [(0, 2), (0, 3), (0, 4), (3, 4)], (0, 3, 4, 2), 3))

    def test_told_pairs_can_be_changed(self):
        musts(WEB, [0]).clear()
        self.assertEqual(musts(WEB, [0]), [(3, 4)])


if __name__ == "__main__":
    unittest.main()
