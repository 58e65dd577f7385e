import unittest
from itertools import permutations

from kindleweb.errors import BadOrder, BadSet
from kindleweb.spread import burnt, kindled_by, lights_all, rounds
from kindleweb.webs import hearths_in, made_web, near
from tests.samples import FAR, burnt_by_words, knot_web, mixed_webs, ring_web, row_web, sets_of, small_webs, wrong_sets

FORK = made_web([1, 1, 2, 3, 0], [(0, 1), (0, 2), (1, 2), (2, 3), (3, 4)])


class RoundByRound(unittest.TestCase):
    def test_no_hearths(self):
        self.assertEqual(rounds(((), ()), ()), [()])
        self.assertEqual(burnt(((), ()), []), ())
        self.assertIs(lights_all(((), ()), []), True)

    def test_no_seeds(self):
        self.assertEqual(rounds(row_web(3, 1), []), [()])
        self.assertEqual(burnt(row_web(3, 1), []), ())
        self.assertIs(lights_all(row_web(3, 1), []), False)

    def test_all_seeds(self):
        self.assertEqual(rounds(row_web(3, 60), (0, 1, 2)), [(0, 1, 2)])
        self.assertEqual(burnt(row_web(3, 60), (0, 1, 2)), (0, 1, 2))
        self.assertIs(lights_all(row_web(3, 60), (0, 1, 2)), True)

    def test_hearths_that_want_none_kindle_in_the_first_round(self):
        self.assertEqual(rounds(((0, 0), ()), ()), [(), (0, 1)])
        self.assertEqual(rounds(made_web([0, 1, 1], [(0, 1), (1, 2)]), []), [(), (0,), (1,), (2,)])

    def test_several_at_once(self):
        self.assertEqual(rounds(FORK, [0]), [(0,), (1, 4), (2,)])
        self.assertEqual(burnt(FORK, [0]), (0, 1, 2, 4))
        self.assertIs(lights_all(FORK, [0]), False)
        self.assertIs(lights_all(FORK, [0, 3]), True)

    def test_row_of_forty_kindles_one_by_one(self):
        web = row_web(40, 1)
        self.assertEqual(rounds(web, [0]), [(k,) for k in range(40)])
        self.assertEqual(rounds(web, (39,)), [(k,) for k in reversed(range(40))])
        self.assertEqual(burnt(web, (20,)), tuple(range(40)))
        self.assertIs(lights_all(web, [0]), True)

    def test_what_wants_more_than_it_has_stays_cold(self):
        self.assertEqual(burnt(row_web(3, 3), (0, 2)), (0, 2))
        self.assertEqual(burnt(knot_web(40, 40), tuple(range(39))), tuple(range(39)))

    def test_by_the_words(self):
        for web in small_webs():
            many = hearths_in(web)
            for seeds in sets_of(many):
                ranks = burnt_by_words(web, seeds)
                last = max(ranks.values(), default=0)
                asked = [tuple(k for k in range(many) if ranks.get(k) == turn) for turn in range(last + 1)]
                self.assertEqual(rounds(web, seeds), asked)
                self.assertEqual(rounds(web, list(seeds)), asked)
                self.assertEqual(burnt(web, list(seeds)), tuple(sorted(ranks)))
                self.assertIs(lights_all(web, seeds), len(ranks) == many)

    def test_wrong_sets(self):
        for call in (rounds, burnt, lights_all):
            for wrong in wrong_sets(5):
                for told in (wrong, tuple(wrong)):
                    with self.assertRaises(BadSet):
                        call(FORK, told)


class OneByOne(unittest.TestCase):
    def test_the_first_one_of_the_order_each_time(self):
        web = made_web([1, 1, 1, 0], [(0, 1), (1, 2), (2, 3)])
        self.assertEqual(kindled_by(web, [], [0, 1, 2, 3]), [3, 2, 1, 0])
        self.assertEqual(kindled_by(web, (0,), (0, 1, 2, 3)), [1, 2, 3])
        self.assertEqual(kindled_by(web, (0,), (0, 3, 2, 1)), [3, 2, 1])
        self.assertEqual(kindled_by(web, (1,), [2, 3, 1, 0]), [2, 3, 0])

    def test_it_goes_back_to_the_begin_of_the_order(self):
        web = made_web([1, 0, 0], [(0, 1)])
        self.assertEqual(kindled_by(web, [], [0, 1, 2]), [1, 0, 2])

    def test_none(self):
        self.assertEqual(kindled_by(((), ()), [], []), [])
        self.assertEqual(kindled_by(row_web(2, 1), [0, 1], [1, 0]), [])
        self.assertEqual(kindled_by(row_web(2, 1), [], [1, 0]), [])

    def test_row_of_forty(self):
        backward = list(reversed(range(40)))
        self.assertEqual(kindled_by(row_web(40, 1), [0], backward), list(range(1, 40)))
        self.assertEqual(kindled_by(row_web(40, 0), [0], backward), backward[:-1])

    def test_whatever_the_order_the_same_burn(self):
        for web in mixed_webs()[:16]:
            many = hearths_in(web)
            for order in list(permutations(range(many)))[::max(1, 5 ** (many - 4))]:
                for seeds in sets_of(many)[::3]:
                    told = kindled_by(web, seeds, order)
                    self.assertEqual(tuple(sorted(list(seeds) + told)), burnt(web, seeds))
                    burning = list(seeds)
                    for hearth in told:
                        can = [k for k in order if k not in burning
                               and len(set(near(web, k)) & set(burning)) >= web[0][k]]
                        self.assertEqual(hearth, can[0])
                        burning.append(hearth)

    def test_wrong_orders(self):
        web = row_web(3, 1)
        for wrong in ([0, 1, 1], [0, 1], [], [0, 1, 2, 0], [0, 1, 2, 3], [0, 1, 3], [-1, 0, 1], [0, 1, FAR], [2, 1, -FAR]):
            for order in (wrong, tuple(wrong)):
                with self.assertRaises(BadOrder, msg=order):
                    kindled_by(web, [0], order)
        with self.assertRaises(BadOrder):
            kindled_by(((), ()), (), [0])

    def test_wrong_seeds_ahead_of_wrong_orders(self):
        for wrong in wrong_sets(3):
            for order in ([0, 1, 2], [0, 0], []):
                with self.assertRaises(BadSet):
                    kindled_by(row_web(3, 1), wrong, order)


class WhatFollows(unittest.TestCase):
    def test_more_seeds_leave_nothing_colder(self):
        for web in mixed_webs():
            many = hearths_in(web)
            for seeds in sets_of(many):
                burning = burnt(web, seeds)
                for hearth in range(many):
                    more = burnt(web, tuple(sorted(set(seeds) | {hearth})))
                    self.assertLessEqual(set(burning), set(more))

    def test_what_burns_lights_no_more(self):
        for web in small_webs():
            for seeds in sets_of(hearths_in(web)):
                burning = burnt(web, seeds)
                self.assertEqual(rounds(web, burning), [burning])

    def test_cold_hearths_have_fewer_burning_neighbours_than_they_want(self):
        for web in small_webs() + [ring_web(40, 2)]:
            for seeds in sets_of(min(3, hearths_in(web))):
                burning = burnt(web, seeds)
                for hearth in range(hearths_in(web)):
                    if hearth not in burning:
                        self.assertLess(len(set(near(web, hearth)) & set(burning)), web[0][hearth])


class WhatIsHandedIn(unittest.TestCase):
    def test_lists_stay_and_are_not_kept(self):
        web = row_web(3, 1)
        seeds = [1]
        order = [2, 1, 0]
        told = (rounds(web, seeds), burnt(web, seeds), kindled_by(web, seeds, order))
        self.assertEqual((seeds, order), ([1], [2, 1, 0]))
        seeds.append(2)
        order.reverse()
        self.assertEqual(told, ([(1,), (0, 2)], (0, 1, 2), [2, 0]))

    def test_told_lists_can_be_changed(self):
        web = row_web(3, 1)
        rounds(web, [1]).append((7,))
        kindled_by(web, [1], [2, 1, 0]).clear()
        self.assertEqual(rounds(web, [1]), [(1,), (0, 2)])
        self.assertEqual(kindled_by(web, [1], [2, 1, 0]), [2, 0])

    def test_rounds_are_sets(self):
        for lit in rounds(FORK, [0]) + [burnt(FORK, [0])]:
            self.assertIs(type(lit), tuple)


if __name__ == "__main__":
    unittest.main()
