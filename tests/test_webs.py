import unittest
from itertools import permutations

from kindleweb.errors import BadSet, BadWeb
from kindleweb.webs import degree_of, hearths_in, made_set, made_web, moved_web, near, rest_web
from tests.samples import FAR, knot_web, mixed_webs, row_web, sets_of, small_webs, wrong_sets


def only_tuples(thing):
    return type(thing) is int or type(thing) is tuple and all(only_tuples(part) for part in thing)


class MadeWeb(unittest.TestCase):
    def refused(self, wants, links):
        with self.assertRaises(BadWeb):
            made_web(wants, links)

    def test_no_hearths(self):
        self.assertEqual(made_web([], []), ((), ()))
        self.assertEqual(made_web((), ()), ((), ()))

    def test_one_hearth(self):
        self.assertEqual(made_web([3], ()), ((3,), ()))

    def test_links_in_any_order_and_form(self):
        asked = ((1, 0, 60, 2), ((0, 2), (0, 3), (1, 2)))
        self.assertEqual(made_web([1, 0, 60, 2], [[2, 1], (3, 0), [0, 2]]), asked)
        self.assertEqual(made_web((1, 0, 60, 2), ((0, 3), [1, 2], (2, 0))), asked)
        self.assertEqual(made_web((1, 0, 60, 2), ((0, 2), (0, 3), (1, 2))), asked)

    def test_links_of_two_figures_rise_as_numbers(self):
        web = made_web([1] * 12, [(11, 2), (10, 2), (9, 2), (2, 3)])
        self.assertEqual(web[1], ((2, 3), (2, 9), (2, 10), (2, 11)))

    def test_forty_hearths(self):
        web = made_web([60] * 20 + [0] * 20, [[39, 0], [39, 38]])
        self.assertEqual(web, ((60,) * 20 + (0,) * 20, ((0, 39), (38, 39))))
        self.assertEqual(len(knot_web(40, 60)[1]), 780)

    def test_all_that_is_told_are_tuples(self):
        for web in (made_web([], []), made_web([1, 2], [[1, 0]]), knot_web(40, 3)):
            self.assertTrue(only_tuples(web))

    def test_too_many_hearths(self):
        self.refused([0] * 41, [])
        self.refused((0,) * 41, ())

    def test_wants_out_of_bounds(self):
        for want in (-1, 61, FAR, -FAR):
            self.refused([want], [])
            self.refused([0, 60, want], [(0, 1)])

    def test_links_of_no_hearth(self):
        for number in (-1, 3, FAR, -FAR):
            self.refused([0, 0, 0], [(0, number)])
            self.refused([0, 0, 0], [[number, 0]])
        self.refused([], [(0, 1)])
        self.refused([1], [(0, 1)])

    def test_links_of_one_hearth_alone(self):
        self.refused([0, 0], [(1, 1)])
        self.refused([0, 0], [(0, 1), [0, 0]])

    def test_links_twice(self):
        self.refused([0, 0, 0], [(0, 1), (0, 1)])
        self.refused([0, 0, 0], [(0, 1), (1, 2), [1, 0]])
        self.refused([0, 0, 0], [(2, 1), (1, 0), (2, 1)])

    def test_hearths_in(self):
        self.assertEqual(hearths_in(((), ())), 0)
        self.assertEqual(hearths_in(((5,), ())), 1)
        self.assertEqual(hearths_in(row_web(40, 1)), 40)


class Near(unittest.TestCase):
    def test_rising_both_ways(self):
        web = made_web([0] * 6, [(5, 3), (3, 0), (1, 3), (3, 4), (0, 1)])
        self.assertEqual([near(web, k) for k in range(6)], [[1, 3], [0, 3], [], [0, 1, 4, 5], [3], [3]])
        self.assertEqual([degree_of(web, k) for k in range(6)], [2, 2, 0, 4, 1, 1])

    def test_one_hearth_has_none(self):
        self.assertEqual(near(((0,), ()), 0), [])
        self.assertEqual(degree_of(((60,), ()), 0), 0)

    def test_knot_of_forty(self):
        web = knot_web(40, 60)
        for k in range(40):
            self.assertEqual(near(web, k), [j for j in range(40) if j != k])
            self.assertEqual(degree_of(web, k), 39)

    def test_by_the_links(self):
        for web in small_webs():
            for k in range(hearths_in(web)):
                asked = [j for j in range(hearths_in(web)) if (k, j) in web[1] or (j, k) in web[1]]
                self.assertEqual(near(web, k), asked)


class MadeSet(unittest.TestCase):
    def test_lists_and_tuples(self):
        web = row_web(4, 1)
        for some in sets_of(4):
            for told in (made_set(web, some), made_set(web, list(some))):
                self.assertEqual(told, some)
                self.assertIs(type(told), tuple)

    def test_no_hearths(self):
        self.assertEqual(made_set(((), ()), []), ())
        for wrong in ([0], (0,), [-1], [FAR]):
            with self.assertRaises(BadSet):
                made_set(((), ()), wrong)

    def test_wrong_sets(self):
        for many in (2, 5, 40):
            for wrong in wrong_sets(many) + [[0, 1, 1], list(range(many)) + [many - 1]]:
                for told in (wrong, tuple(wrong)):
                    with self.assertRaises(BadSet, msg=told):
                        made_set(row_web(many, 1), told)
        with self.assertRaises(BadSet):
            made_set(row_web(5, 1), [0, 2, 1, 3])


class MovedWeb(unittest.TestCase):
    def test_hearths_take_their_wants_along(self):
        web = made_web([5, 6, 7], [(0, 1)])
        asked = ((6, 7, 5), ((0, 2),))
        self.assertEqual(moved_web(web, [2, 0, 1]), asked)
        self.assertEqual(moved_web(web, (2, 0, 1)), asked)
        self.assertEqual(moved_web(((), ()), []), ((), ()))

    def test_moved_and_moved_back(self):
        for web in mixed_webs()[:8]:
            many = hearths_in(web)
            for places in list(permutations(range(many)))[::7]:
                moved = moved_web(web, places)
                self.assertTrue(only_tuples(moved))
                self.assertEqual(made_web(moved[0], moved[1]), moved)
                for k in range(many):
                    self.assertEqual(moved[0][places[k]], web[0][k])
                    self.assertEqual(near(moved, places[k]), sorted(places[j] for j in near(web, k)))
                self.assertEqual(moved_web(moved, [places.index(k) for k in range(many)]), web)

    def test_wrong_places(self):
        web = row_web(3, 1)
        wrong = [[0, 1, 1], [0, 1], [], [0, 1, 2, 3], [0, 1, 2, 2], [-1, 0, 1], [1, 2, 3], [0, 1, FAR], [0, 1, -FAR]]
        for places in wrong:
            for told in (places, tuple(places)):
                with self.assertRaises(BadWeb, msg=told):
                    moved_web(web, told)
        with self.assertRaises(BadWeb):
            moved_web(((), ()), [0])


class RestWeb(unittest.TestCase):
    def test_all_and_none(self):
        for web in mixed_webs():
            self.assertEqual(rest_web(web, list(range(hearths_in(web)))), web)
            self.assertEqual(rest_web(web, ()), ((), ()))

    def test_some(self):
        web = made_web([3, 2, 1, 4, 0], [(0, 1), (0, 2), (0, 3), (1, 3), (2, 3), (3, 4)])
        self.assertEqual(rest_web(web, (0, 2, 3)), ((2, 1, 2), ((0, 1), (0, 2), (1, 2))))
        self.assertEqual(rest_web(web, [1, 4]), ((0, 0), ()))

    def test_wants_do_not_fall_below_none(self):
        self.assertEqual(rest_web(knot_web(5, 2), (1,)), ((0,), ()))
        self.assertEqual(rest_web(knot_web(5, 2), (1, 3)), ((0, 0), ((0, 1),)))

    def test_by_the_words(self):
        for web in mixed_webs():
            for some in sets_of(hearths_in(web)):
                told = rest_web(web, some)
                self.assertTrue(only_tuples(told))
                wants = tuple(max(0, web[0][k] - len([j for j in near(web, k) if j not in some])) for k in some)
                links = tuple((some.index(a), some.index(b)) for a, b in web[1] if a in some and b in some)
                self.assertEqual(told, (wants, links))

    def test_wrong_sets(self):
        for wrong in wrong_sets(4):
            with self.assertRaises(BadSet):
                rest_web(row_web(4, 1), wrong)


class WhatIsHandedIn(unittest.TestCase):
    def test_made_web_keeps_nothing(self):
        wants = [1, 2, 3]
        links = [[2, 0], [1, 0]]
        web = made_web(wants, links)
        self.assertEqual((wants, links), ([1, 2, 3], [[2, 0], [1, 0]]))
        wants[0] = 9
        links[0][0] = 1
        links.append([1, 2])
        self.assertEqual(web, ((1, 2, 3), ((0, 1), (0, 2))))

    def test_made_set_keeps_nothing(self):
        hearths = [0, 2]
        told = made_set(row_web(3, 1), hearths)
        hearths.append(7)
        self.assertEqual(told, (0, 2))

    def test_moved_and_rest_web_keep_nothing(self):
        places = [2, 0, 1]
        some = [0, 2]
        moved = moved_web(row_web(3, 1), places)
        rest = rest_web(row_web(3, 1), some)
        self.assertEqual((places, some), ([2, 0, 1], [0, 2]))
        places[0] = 0
        some[0] = 1
        self.assertEqual(moved, ((1, 1, 1), ((0, 1), (0, 2))))
        self.assertEqual(rest, ((0, 0), ()))

    def test_refused_lists_stay(self):
        wants = [1, 61]
        links = [[1, 0], [0, 1]]
        places = [1, 1]
        with self.assertRaises(BadWeb):
            made_web(wants, links)
        with self.assertRaises(BadWeb):
            made_web([1, 2], links)
        with self.assertRaises(BadWeb):
            moved_web(row_web(2, 1), places)
        self.assertEqual((wants, links, places), ([1, 61], [[1, 0], [0, 1]], [1, 1]))

    def test_told_neighbours_can_be_changed(self):
        web = row_web(3, 1)
        told = near(web, 1)
        told.append(1)
        self.assertEqual(near(web, 1), [0, 2])
        self.assertEqual(degree_of(web, 1), 2)
        self.assertEqual(web, ((1, 1, 1), ((0, 1), (1, 2))))


if __name__ == "__main__":
    unittest.main()
