import unittest
from itertools import combinations, permutations

from kindleweb.causes import causes, judged_causes
from kindleweb.errors import BadSet, NoPaper
from kindleweb.spread import burnt
from kindleweb.webs import hearths_in, made_web, moved_web, near, rest_web
from tests.samples import FAR, burnt_by_words, knot_web, mixed_webs, row_web, sets_of, small_webs, wrong_sets

LATE = made_web([1, 1, 2, 1, 3, 2], [(0, 1), (1, 2), (0, 2), (0, 4), (1, 4), (2, 4), (3, 4), (2, 3), (4, 5)])


class Causes(unittest.TestCase):
    def test_no_hearths(self):
        self.assertEqual(causes(((), ()), ()), [])

    def test_seeds_want_nothing(self):
        self.assertEqual(causes(row_web(2, 60), [0, 1]), [(0, ()), (0, ())])
        self.assertEqual(causes(row_web(2, 0), [0]), [(0, ()), (1, ())])

    def test_cold_ones_have_none(self):
        self.assertEqual(causes(row_web(3, 2), (0,)), [(0, ()), None, None])

    def test_hearths_that_want_none(self):
        self.assertEqual(causes(made_web([0, 1, 0], [(0, 1), (1, 2)]), []), [(1, ()), (2, (0,)), (1, ())])

    def test_lesser_rounds_first_then_lesser_numbers(self):
        web = made_web([1, 1, 2, 60], [(0, 2), (0, 3), (1, 2), (1, 3), (2, 3)])
        self.assertEqual(causes(web, (3,)), [(1, (3,)), (1, (3,)), (2, (0, 3)), (0, ())])
        wide = made_web([60, 1, 1, 60, 60, 2], [(1, 3), (0, 5), (1, 5), (2, 5), (3, 5), (4, 5), (0, 2)])
        self.assertEqual(causes(wide, (3, 4)), [None, (1, (3,)), (2, (5,)), (0, ()), (0, ()), (1, (3, 4))])

    def test_hearths_of_later_rounds(self):
        self.assertEqual(causes(LATE, (0,)), [(0, ()), (1, (0,)), (2, (0, 1)), (3, (2,)), (3, (0, 1, 2)), None])

    def test_more_burning_neighbours_than_wanted(self):
        self.assertEqual(causes(knot_web(6, 2), (1, 3, 4)),
                         [(1, (1, 3)), (0, ()), (1, (1, 3)), (0, ()), (0, ()), (1, (1, 3))])

    def test_set_rises_though_an_earlier_round_has_the_greater_number(self):
        web = made_web([1, 2, 60], [(0, 2), (0, 1), (1, 2)])
        self.assertEqual(causes(web, (2,)), [(1, (2,)), (2, (0, 2)), (0, ())])

    def test_only_those_of_earlier_rounds(self):
        self.assertEqual(causes(knot_web(4, 1), (3,)), [(1, (3,)), (1, (3,)), (1, (3,)), (0, ())])

    def test_row_of_forty(self):
        self.assertEqual(causes(row_web(40, 1), [0]), [(0, ())] + [(k, (k - 1,)) for k in range(1, 40)])

    def by_words(self, web, seeds):
        ranks = burnt_by_words(web, seeds)
        told = []
        for hearth in range(hearths_in(web)):
            if hearth not in ranks:
                told.append(None)
                continue
            rank = ranks[hearth]
            earlier = [(ranks[k], k) for k in near(web, hearth) if k in ranks and ranks[k] < rank]
            taken = sorted(earlier)[:web[0][hearth]] if rank else []
            told.append((rank, tuple(sorted(k for _, k in taken))))
        return told

    def test_by_the_words(self):
        for web in small_webs():
            for seeds in sets_of(hearths_in(web)):
                told = causes(web, seeds)
                self.assertEqual(told, self.by_words(web, seeds))
                self.assertEqual(causes(web, list(seeds)), told)
                self.assertEqual(judged_causes(web, seeds, told), burnt(web, seeds))

    def test_of_webs_moved_and_of_rest_webs(self):
        for web in mixed_webs()[:12]:
            many = hearths_in(web)
            for places in list(permutations(range(many)))[::11]:
                moved = moved_web(web, places)
                self.assertEqual(causes(moved, (0,)), self.by_words(moved, (0,)))
                self.assertEqual([cause and cause[0] for cause in causes(web, (places.index(0),))],
                                 [causes(moved, (0,))[place] and causes(moved, (0,))[place][0] for place in places])
            for some in sets_of(many):
                rest = rest_web(web, some)
                for seeds in sets_of(len(some))[:4]:
                    self.assertEqual(causes(rest, seeds), self.by_words(rest, seeds))

    def test_wrong_seeds(self):
        for wrong in wrong_sets(6):
            with self.assertRaises(BadSet):
                causes(LATE, wrong)


class Judged(unittest.TestCase):
    def refused(self, web, seeds, told):
        with self.assertRaises(NoPaper, msg=told):
            judged_causes(web, seeds, told)

    def test_the_told_ones(self):
        self.assertEqual(judged_causes(LATE, (0,), causes(LATE, (0,))), (0, 1, 2, 3, 4))
        self.assertEqual(judged_causes(LATE, [0, 4, 5], causes(LATE, [0, 4, 5])), (0, 1, 2, 3, 4, 5))
        self.assertEqual(judged_causes(((), ()), (), []), ())

    def test_other_right_ones(self):
        told = [(0, ()), (5, (0,)), (7, (0, 1)), (9, (2,)), (FAR, (1, 2, 3)), None]
        self.assertEqual(judged_causes(LATE, (0,), told), (0, 1, 2, 3, 4))
        self.assertEqual(judged_causes(((0, 0), ()), (), [(4, ()), (1, ())]), (0, 1))

    def test_another_count(self):
        told = causes(LATE, (0,))
        self.refused(LATE, (0,), told[:-1])
        self.refused(LATE, (0,), told + [None])
        self.refused(LATE, (0,), [])
        self.refused(((), ()), (), [None])

    def changed(self, hearth, cause):
        told = causes(LATE, (0,))
        told[hearth] = cause
        return told

    def test_each_way_to_be_not_right(self):
        wrong = [
            (0, None), (0, (1, ())), (0, (1, (1,))), (0, (-1, ())), (0, (0, (1,))),   # a seed with another cause
            (1, (0, ())), (1, (0, (0,))), (1, (-1, (0,))), (1, (-FAR, (0,))),         # a rank below 1
            (2, (1, (0, 1))), (3, (2, (2,))), (4, (2, (0, 1, 2))), (3, (3, (4,))),    # a rank not greater
            (1, (3, (5,))), (1, (1, (-6,))), (1, (1, (6,))), (1, (1, (FAR,))),        # no neighbour, or no hearth
            (1, (3, (1,))), (4, (3, (0, 1, 4))), (2, (3, (0, 5))),                    # itself, or no neighbour
            (1, (3, ())), (2, (3, (0,))), (4, (4, (0, 1, 2, 3))), (1, (3, (0, 2))),   # too few or too many
            (2, (3, (1, 0))), (2, (3, (0, 0))), (4, (4, (0, 2, 1))), (4, (4, (1, 1, 2))),   # not a set
            (1, None), (2, None), (3, None), (4, None),                               # None for what burns
            (5, (9, (4,))), (5, (9, (4, 4))), (5, (1, ())), (5, (0, ())),             # a cause for what stays cold
        ]
        for hearth, cause in wrong:
            self.refused(LATE, (0,), self.changed(hearth, cause))

    def test_a_neighbour_without_a_cause(self):
        web = made_web([1, 1], [(0, 1)])
        self.refused(web, (), [None, (1, (0,))])
        self.refused(web, (), [(1, (1,)), (2, (0,))])
        self.refused(web, (), [(1, (1,)), (1, (0,))])
        self.assertEqual(judged_causes(web, (), [None, None]), ())

    def test_all_none_for_what_burns(self):
        self.refused(((0,), ()), (), [None])
        self.refused(row_web(2, 1), (), [(0, ()), (1, (0,))])
        self.refused(row_web(2, 1), (0,), [(0, ()), None])

    def test_ranks_below_one_of_hearths_that_want_none(self):
        web = made_web([0, 1], [(0, 1)])
        for rank in (0, -1, -FAR):
            self.refused(web, (), [(rank, ()), (2, (0,))])
            self.refused(web, (), [(rank - 1, ()), (rank, (0,))])
        self.assertEqual(judged_causes(web, (), [(1, ()), (2, (0,))]), (0, 1))

    def test_no_seed_without_its_cause(self):
        self.refused(row_web(2, 1), (0, 1), [(0, ()), (1, (0,))])

    def test_whatever_is_right_tells_what_burns(self):
        for web in small_webs()[:200]:
            many = hearths_in(web)
            choices = [None] + [(rank, by) for rank in range(3) for size in range(3)
                                for by in combinations(range(many), size)]
            for seeds in sets_of(many):
                for one in choices[:20]:
                    for hearth in range(many):
                        told = causes(web, seeds)
                        told[hearth] = one
                        try:
                            self.assertEqual(judged_causes(web, seeds, told), burnt(web, seeds))
                        except NoPaper:
                            self.assertNotEqual(told, causes(web, seeds))

    def test_wrong_seeds_ahead_of_wrong_papers(self):
        for wrong in wrong_sets(6):
            for told in (causes(LATE, (0,)), [], [None] * 6):
                with self.assertRaises(BadSet):
                    judged_causes(LATE, wrong, told)


class WhatIsHandedIn(unittest.TestCase):
    def test_lists_stay_and_are_not_kept(self):
        seeds = [0]
        told = causes(LATE, seeds)
        copy = list(told)
        burning = judged_causes(LATE, seeds, told)
        self.assertEqual((seeds, told), ([0], copy))
        seeds[0] = 5
        told.clear()
        self.assertEqual(burning, (0, 1, 2, 3, 4))
        self.assertEqual(causes(LATE, (0,)), copy)

    def test_causes_are_tuples(self):
        for cause in causes(LATE, [0])[:5]:
            self.assertEqual((type(cause), type(cause[1])), (tuple, tuple))


if __name__ == "__main__":
    unittest.main()
