import unittest
from itertools import combinations

from kindleweb.cold import cold_pieces, cold_rest, cold_within, is_cold
from kindleweb.errors import BadSet
from kindleweb.spread import burnt, lights_all
from kindleweb.webs import hearths_in, made_web
from tests.samples import cold_by_words, knot_web, mixed_webs, neighbours, ring_web, row_web, sets_of, small_webs, wrong_sets


class ColdBlocks(unittest.TestCase):
    def test_empty_set(self):
        for web in (((), ()), row_web(3, 0), knot_web(4, 2)):
            self.assertIs(is_cold(web, ()), True)
            self.assertEqual(cold_within(web, []), ())

    def test_one_that_wants_more_than_it_has(self):
        self.assertIs(is_cold(row_web(3, 2), (0,)), True)
        self.assertIs(is_cold(row_web(3, 2), (1,)), False)
        self.assertIs(is_cold(((1,), ()), [0]), True)

    def test_one_that_wants_none_is_in_no_block(self):
        self.assertIs(is_cold(row_web(3, 0), (0, 1, 2)), False)
        self.assertEqual(cold_within(made_web([0, 1, 2], [(0, 1), (1, 2)]), (0, 1, 2)), (2,))

    def test_ring(self):
        web = ring_web(6, 2)
        self.assertIs(is_cold(web, (0, 1)), True)
        self.assertIs(is_cold(web, [0, 2]), False)
        self.assertEqual(cold_within(web, (0, 1, 3, 5)), (0, 1, 5))
        self.assertEqual(cold_within(web, [1, 3, 5]), ())

    def test_going_on_until_nothing_leaves(self):
        self.assertEqual(cold_within(row_web(40, 1), list(range(1, 40))), ())
        self.assertEqual(cold_within(row_web(40, 1), tuple(range(40))), tuple(range(40)))

    def test_by_the_words(self):
        for web in small_webs():
            for some in sets_of(hearths_in(web)):
                self.assertIs(is_cold(web, some), cold_by_words(web, some))
                self.assertIs(is_cold(web, list(some)), cold_by_words(web, some))

    def test_the_greatest_has_all_of_each(self):
        for web in small_webs()[::5] + mixed_webs()[:12]:
            cold = [block for block in sets_of(hearths_in(web)) if cold_by_words(web, block)]
            for some in sets_of(hearths_in(web)):
                inside = [block for block in cold if set(block) <= set(some)]
                asked = tuple(sorted(set().union(*inside)))
                self.assertEqual(cold_within(web, some), asked)
                self.assertEqual(cold_within(web, list(some)), asked)

    def test_two_blocks_together_are_one(self):
        for web in mixed_webs()[:12]:
            cold = [block for block in sets_of(hearths_in(web)) if is_cold(web, block)]
            for one, other in combinations(cold, 2):
                self.assertTrue(is_cold(web, tuple(sorted(set(one) | set(other)))))


class ColdRest(unittest.TestCase):
    def test_edges(self):
        self.assertEqual(cold_rest(((), ()), ()), ())
        self.assertEqual(cold_rest(row_web(3, 1), []), (0, 1, 2))
        self.assertEqual(cold_rest(row_web(3, 1), [1]), ())
        self.assertEqual(cold_rest(row_web(5, 2), (1,)), (0, 2, 3, 4))

    def test_beside_burnt_and_cold_within(self):
        for web in small_webs():
            many = hearths_in(web)
            for seeds in sets_of(many):
                rest = cold_rest(web, seeds)
                self.assertEqual(rest, tuple(k for k in range(many) if k not in burnt(web, seeds)))
                self.assertEqual(rest, cold_within(web, [k for k in range(many) if k not in seeds]))
                self.assertEqual(rest == (), lights_all(web, seeds))
                self.assertEqual(cold_rest(web, list(seeds)), rest)

    def test_seeds_light_all_where_they_meet_each_block(self):
        for web in mixed_webs():
            sets = sets_of(hearths_in(web))
            cold = [block for block in sets if block and cold_by_words(web, block)]
            for seeds in sets:
                self.assertIs(lights_all(web, seeds), all(set(seeds) & set(block) for block in cold))


class Pieces(unittest.TestCase):
    WEB = made_web([1] * 8, [(0, 5), (5, 3), (1, 7), (2, 4), (4, 6), (6, 2)])

    def test_none_one_and_several(self):
        self.assertEqual(cold_pieces(self.WEB, ()), [])
        self.assertEqual(cold_pieces(((), ()), []), [])
        self.assertEqual(cold_pieces(self.WEB, [2, 4, 6]), [(2, 4, 6)])
        self.assertEqual(cold_pieces(self.WEB, list(range(8))), [(0, 3, 5), (1, 7), (2, 4, 6)])

    def test_links_outside_the_set_do_not_lead(self):
        self.assertEqual(cold_pieces(self.WEB, (0, 1, 3, 7)), [(0,), (1, 7), (3,)])
        self.assertEqual(cold_pieces(row_web(40, 0), list(range(0, 40, 2))), [(k,) for k in range(0, 40, 2)])
        self.assertEqual(cold_pieces(row_web(40, 0), list(range(40))), [tuple(range(40))])

    def test_by_the_words(self):
        for web in small_webs():
            for some in sets_of(hearths_in(web)):
                told = cold_pieces(web, some)
                self.assertEqual(cold_pieces(web, list(some)), told)
                self.assertEqual(tuple(sorted(k for piece in told for k in piece)), some)
                self.assertEqual(told, sorted(told))
                for piece in told:
                    self.assertIs(type(piece), tuple)
                    reached = {piece[0]}
                    for _ in piece:
                        reached |= {j for k in reached for j in neighbours(web, k) if j in some}
                    self.assertEqual(piece, tuple(sorted(reached)))
                    if is_cold(web, some):
                        self.assertIs(is_cold(web, piece), True)


class Refused(unittest.TestCase):
    def test_wrong_sets(self):
        for call in (is_cold, cold_within, cold_rest, cold_pieces):
            for wrong in wrong_sets(4):
                for told in (wrong, tuple(wrong)):
                    with self.assertRaises(BadSet):
                        call(row_web(4, 1), told)


class WhatIsHandedIn(unittest.TestCase):
    def test_lists_stay_and_are_not_kept(self):
        web = ring_web(6, 2)
        some = [0, 1, 3, 4]
        told = (cold_within(web, some), cold_pieces(web, some), cold_rest(web, some), is_cold(web, some))
        self.assertEqual(some, [0, 1, 3, 4])
        some.clear()
        self.assertEqual(told, ((0, 1, 3, 4), [(0, 1), (3, 4)], (), True))

    def test_told_pieces_can_be_changed(self):
        web = row_web(3, 1)
        cold_pieces(web, (0, 2)).append(())
        self.assertEqual(cold_pieces(web, (0, 2)), [(0,), (2,)])


if __name__ == "__main__":
    unittest.main()
