import unittest

from kindleweb.blocks import cold_paper, is_least, judged_cold, least_colds, least_within
from kindleweb.cold import cold_pieces, cold_within, is_cold
from kindleweb.errors import BadSet, TooMany
from kindleweb.spread import lights_all
from kindleweb.webs import hearths_in, made_web
from tests.samples import cold_by_words, knot_web, mixed_webs, ring_web, row_web, sets_of, small_webs, wrong_sets


def least_by_words(web):
    cold = [block for block in sets_of(hearths_in(web)) if block and cold_by_words(web, block)]
    return sorted(block for block in cold if not any(set(other) < set(block) for other in cold))


def within_by_words(web, some):
    """[3.5], with each greatest cold block sought among all sets."""
    cold = [set(block) for block in sets_of(hearths_in(web)) if cold_by_words(web, block)]
    left = set().union(*(block for block in cold if block <= set(some)))
    for hearth in range(hearths_in(web)):
        if hearth in left:
            less = set().union(*(block for block in cold if block <= left - {hearth}))
            left = less or left
    return tuple(sorted(left))


class LeastWithin(unittest.TestCase):
    def test_none(self):
        self.assertEqual(least_within(((), ()), ()), ())
        self.assertEqual(least_within(row_web(3, 1), (0, 1)), ())
        self.assertEqual(least_within(row_web(3, 0), [0, 1, 2]), ())
        self.assertEqual(least_within(row_web(3, 2), []), ())

    def test_hearths_leave_ascending(self):
        self.assertEqual(least_within(ring_web(5, 2), list(range(5))), (3, 4))
        self.assertEqual(least_within(ring_web(5, 2), (0, 1, 3)), (0, 1))
        self.assertEqual(least_within(knot_web(40, 20), tuple(range(40))), tuple(range(19, 40)))
        self.assertEqual(least_within(row_web(40, 1), tuple(range(40))), tuple(range(40)))

    def test_by_the_words(self):
        for web in small_webs()[::3] + mixed_webs()[:12]:
            for some in sets_of(hearths_in(web)):
                told = least_within(web, some)
                self.assertEqual(told, within_by_words(web, some))
                self.assertEqual(least_within(web, list(some)), told)
                self.assertIs(type(told), tuple)
                self.assertIs(is_least(web, told), cold_within(web, some) != ())


class Least(unittest.TestCase):
    def test_empty_block_is_none(self):
        self.assertIs(is_least(row_web(3, 1), ()), False)
        self.assertIs(is_least(((), ()), []), False)

    def test_ring(self):
        web = ring_web(6, 2)
        self.assertIs(is_least(web, (0, 1)), True)
        self.assertIs(is_least(web, [0, 5]), True)
        self.assertIs(is_least(web, (0, 1, 2)), False)
        self.assertIs(is_least(web, (0, 1, 3, 4)), False)
        self.assertIs(is_least(web, (0, 2)), False)

    def test_not_cold_but_with_a_least_one_within(self):
        self.assertIs(is_least(made_web([2, 1], [(0, 1)]), (0, 1)), False)
        self.assertIs(is_least(ring_web(6, 2), (0, 1, 3)), False)

    def test_forty(self):
        self.assertIs(is_least(row_web(40, 1), tuple(range(40))), True)
        self.assertIs(is_least(row_web(40, 1), tuple(range(39))), False)

    def test_all_of_them(self):
        self.assertEqual(least_colds(((), ())), [])
        self.assertEqual(least_colds(((0,), ())), [])
        self.assertEqual(least_colds(((1,), ())), [(0,)])
        self.assertEqual(least_colds(row_web(3, 0)), [])
        self.assertEqual(least_colds(ring_web(4, 2)), [(0, 1), (0, 3), (1, 2), (2, 3)])
        self.assertEqual(least_colds(made_web([3, 1, 1, 2], [(1, 2), (2, 3)])), [(0,), (3,)])

    def test_ascending_a_beginning_ahead(self):
        told = least_colds(ring_web(12, 2))
        self.assertEqual(told, sorted([(k, k + 1) for k in range(11)] + [(0, 11)]))

    def test_by_the_words(self):
        for web in small_webs():
            asked = least_by_words(web)
            self.assertEqual(least_colds(web), asked)
            for block in sets_of(hearths_in(web)):
                self.assertIs(is_least(web, block), block in asked)
                self.assertIs(is_least(web, list(block)), block in asked)

    def test_one_piece_and_seeds_that_meet_each(self):
        for web in mixed_webs():
            told = least_colds(web)
            for block in told:
                self.assertEqual(cold_pieces(web, block), [block])
            for seeds in sets_of(hearths_in(web)):
                self.assertIs(lights_all(web, seeds), all(set(seeds) & set(block) for block in told))

    def test_too_many(self):
        self.assertEqual(least_colds(row_web(12, 1)), [tuple(range(12))])
        self.assertEqual(len(least_colds(knot_web(12, 6))), 792)
        for web in (row_web(13, 1), made_web([0] * 13, []), knot_web(40, 3)):
            with self.assertRaises(TooMany):
                least_colds(web)


class Papers(unittest.TestCase):
    def test_none_where_all_burns(self):
        self.assertIsNone(cold_paper(((), ()), ()))
        self.assertIsNone(cold_paper(row_web(3, 1), [1]))
        self.assertIsNone(cold_paper(row_web(3, 60), (0, 1, 2)))
        self.assertIsNone(cold_paper(row_web(40, 1), (0,)))

    def test_the_least_block_off_the_seeds(self):
        self.assertEqual(cold_paper(ring_web(6, 2), [0]), (4, 5))
        self.assertEqual(cold_paper(ring_web(6, 2), (0, 2, 4)), None)
        self.assertEqual(cold_paper(row_web(3, 1), ()), (0, 1, 2))

    def test_papers_are_right(self):
        for web in small_webs():
            many = hearths_in(web)
            for seeds in sets_of(many):
                told = cold_paper(web, seeds)
                self.assertEqual(told is None, lights_all(web, seeds))
                self.assertEqual(cold_paper(web, list(seeds)), told)
                if told is not None:
                    self.assertEqual(told, least_within(web, [k for k in range(many) if k not in seeds]))
                    self.assertIs(judged_cold(web, seeds, told), True)

    def test_judged(self):
        web = ring_web(6, 2)
        self.assertIs(judged_cold(web, [0], [1, 2, 3]), True)
        self.assertIs(judged_cold(web, (), (1, 2)), True)
        self.assertIs(judged_cold(web, [0], (0, 1)), False)
        self.assertIs(judged_cold(web, [0], ()), False)
        self.assertIs(judged_cold(web, [0], (2, 4)), False)
        self.assertIs(judged_cold(((), ()), (), ()), False)

    def test_judged_by_the_words(self):
        for web in mixed_webs()[:8]:
            sets = sets_of(hearths_in(web))
            for seeds in sets[::3]:
                for block in sets:
                    asked = bool(block) and not set(block) & set(seeds) and is_cold(web, block)
                    self.assertIs(judged_cold(web, seeds, block), asked)


class Refused(unittest.TestCase):
    def test_wrong_sets(self):
        web = row_web(4, 1)
        for wrong in wrong_sets(4):
            for told in (wrong, tuple(wrong)):
                for call in (least_within, is_least, cold_paper):
                    with self.assertRaises(BadSet):
                        call(web, told)
                for block in ((), (0,), [1, 2], wrong):
                    with self.assertRaises(BadSet):
                        judged_cold(web, told, block)
                    with self.assertRaises(BadSet):
                        judged_cold(web, (0,), told)


class WhatIsHandedIn(unittest.TestCase):
    def test_lists_stay_and_are_not_kept(self):
        web = ring_web(6, 2)
        some = [0, 1, 3]
        seeds = [4]
        told = (least_within(web, some), is_least(web, some), cold_paper(web, seeds), judged_cold(web, seeds, some))
        self.assertEqual((some, seeds), ([0, 1, 3], [4]))
        some.clear()
        seeds[0] = 0
        self.assertEqual(told, ((0, 1), False, (2, 3), False))

    def test_told_blocks_can_be_changed(self):
        web = ring_web(4, 2)
        least_colds(web).clear()
        self.assertEqual(least_colds(web), [(0, 1), (0, 3), (1, 2), (2, 3)])


if __name__ == "__main__":
    unittest.main()
