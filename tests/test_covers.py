import unittest
from itertools import combinations

from kindleweb.boards import board_web
from kindleweb.covers import colours_of, cover_of, judged_cover, odd_round
from kindleweb.errors import OddRound
from kindleweb.rests import full_web
from kindleweb.spread import lights_all
from kindleweb.webs import made_web, moved_web
from tests.samples import FAR, knot_web, mixed_webs, mixed_woods, neighbours, ring_web, row_web, small_webs
from tests.test_rests import all_links

EMPTY = ((), ())


def linked(many, links):
    return made_web([1] * many, links)


def sides_web(one, other):
    """Each of so many hearths linked to each of so many others."""
    return linked(one + other, [(k, one + j) for k in range(one) for j in range(other)])


def sample_webs():
    webs = [linked(many, links) for many in range(5) for links in all_links(many)]
    # Links between an even and an odd hearth alone leave no odd round.
    even = [linked(len(web[0]), [link for link in web[1] if sum(link) % 2]) for web in mixed_webs()]
    return webs + small_webs()[::7] + mixed_webs() + even + mixed_woods()


def great_webs():
    turned = [(7 * k + 3) % 40 for k in range(40)]
    webs = [row_web(40, 2), ring_web(40, 2), board_web(5, 8), board_web(4, 10), sides_web(20, 20), sides_web(3, 37),
            linked(40, [(k, k + 1) for k in range(0, 40, 2)]), linked(40, []),
            linked(40, [(0, k) for k in range(1, 40)])]
    return webs + [moved_web(web, turned) for web in webs]


def colours_by_words(web):
    """The colours of [9.6], or None: each hearth from the least one of its piece on."""
    colours = {}
    for root in range(len(web[0])):
        waiting = [] if root in colours else [(root, 0)]
        while waiting:
            hearth, colour = waiting.pop(0)
            if colours.setdefault(hearth, colour) != colour:
                return None
            waiting += [(k, 1 - colour) for k in neighbours(web, hearth) if colours.get(k) != 1 - colour]
    return [colours[k] for k in range(len(web[0]))]


def fewest_by_words(web):
    """How many hearths at least have one of each link."""
    many = len(web[0])
    return min(size for size in range(many + 1) for some in combinations(range(many), size)
               if all(one in some or other in some for one, other in web[1]))


def right_by_words(web, seeds, links):
    ends = [hearth for link in links for hearth in link]
    return (list(seeds) == sorted(set(seeds)) and set(seeds) <= set(range(len(web[0])))
            and all(one in seeds or other in seeds for one, other in web[1])
            and list(links) == sorted(set(links)) and set(links) <= set(web[1])
            and len(set(ends)) == len(ends) and len(seeds) == len(links))


class Colours(unittest.TestCase):
    def test_edges(self):
        self.assertEqual(colours_of(EMPTY), [])
        self.assertEqual(colours_of(((7,), ())), [0])
        self.assertEqual(colours_of(((0, 1, 2), ())), [0, 0, 0])

    def test_ordinary(self):
        self.assertEqual(colours_of(row_web(5, 1)), [0, 1, 0, 1, 0])
        self.assertEqual(colours_of(ring_web(4, 1)), [0, 1, 0, 1])
        self.assertEqual(colours_of(linked(4, [(3, 0), (3, 1), (3, 2)])), [0, 0, 0, 1])

    def test_several_pieces(self):
        self.assertEqual(colours_of(linked(6, [(0, 4), (4, 2), (1, 5)])), [0, 0, 0, 0, 1, 1])
        self.assertEqual(colours_of(linked(5, [(1, 2), (3, 4)])), [0, 0, 1, 0, 1])

    def test_odd_rounds(self):
        for web in (ring_web(3, 1), ring_web(5, 2), ring_web(39, 0), knot_web(4, 1), knot_web(40, 1),
                    linked(6, [(0, 1), (2, 3), (3, 4), (4, 2)]), linked(5, [(0, 1), (1, 2), (2, 3), (3, 4), (4, 2)])):
            for call in (colours_of, cover_of):
                with self.assertRaises(OddRound):
                    call(web)

    def test_by_the_words(self):
        found = {True: 0, False: 0}
        for web in sample_webs() + great_webs():
            asked = colours_by_words(web)
            found[asked is None] += 1
            if asked is None:
                with self.assertRaises(OddRound):
                    colours_of(web)
            else:
                told = colours_of(web)
                self.assertIs(type(told), list)
                self.assertEqual(told, asked)
        self.assertGreater(min(found.values()), 20)


class OddRounds(unittest.TestCase):
    def test_none(self):
        for web in (EMPTY, ((3,), ()), row_web(40, 1), ring_web(4, 2), ring_web(40, 2), board_web(5, 8)):
            self.assertIsNone(odd_round(web))

    def test_the_only_one(self):
        for many in (3, 5, 39):
            self.assertEqual(sorted(odd_round(ring_web(many, 1))), list(range(many)))
        web = linked(7, [(0, 1), (1, 2), (2, 3), (3, 0), (4, 5), (5, 6), (6, 4)])
        self.assertEqual(sorted(odd_round(web)), [4, 5, 6])
        # A way leads to the round; none of its hearths belongs to it.
        web = linked(8, [(0, 1), (1, 2), (2, 3), (3, 4), (4, 5), (5, 6), (6, 7), (7, 3)])
        self.assertEqual(sorted(odd_round(web)), [3, 4, 5, 6, 7])

    def test_rows_of_hearths(self):
        odd_boards = [made_web([1] * 40, board_web(5, 8)[1] + ((k, k + 9),)) for k in (0, 12, 30)]
        for web in sample_webs() + great_webs() + odd_boards + [knot_web(40, 1), ring_web(39, 1)]:
            told = odd_round(web)
            self.assertEqual(told is None, colours_by_words(web) is not None)
            if told is not None:
                self.assertIs(type(told), tuple)
                self.assertEqual(len(told) % 2, 1)
                self.assertGreaterEqual(len(told), 3)
                self.assertEqual(len(set(told)), len(told))
                for one, other in zip(told, told[1:] + told[:1]):
                    self.assertIn((min(one, other), max(one, other)), web[1])


class Covers(unittest.TestCase):
    def test_edges(self):
        self.assertEqual(cover_of(EMPTY), ((), ()))
        self.assertEqual(cover_of(((5,), ())), ((), ()))
        self.assertEqual(cover_of(linked(40, [])), ((), ()))
        self.assertIn(cover_of(row_web(2, 1)), (((0,), ((0, 1),)), ((1,), ((0, 1),))))
        self.assertEqual(cover_of(row_web(3, 1))[0], (1,))

    def test_small_webs(self):
        for web in sample_webs():
            if colours_by_words(web) is not None:
                self.right(web)
                self.assertEqual(len(cover_of(web)[0]), fewest_by_words(web))

    def test_great_webs(self):
        counts = []
        for web in great_webs():
            self.right(web)
            counts.append(len(cover_of(web)[0]))
        self.assertEqual(counts, [20, 20, 20, 20, 20, 3, 20, 0, 1] * 2)

    def test_partners_are_given_away(self):
        # Each hearth but the last one finds its partner taken by the one ahead of it.
        links = [(k, 5) for k in range(5)] + [(k, k + 5) for k in range(1, 5)] + [(k, k + 6) for k in range(4)]
        web = linked(10, links)
        self.right(web)
        self.assertEqual(len(cover_of(web)[1]), 5)

    def right(self, web):
        told = cover_of(web)
        self.assertIs(type(told), tuple)
        self.assertEqual(len(told), 2)
        self.assertTrue(all(type(part) is tuple for part in told + told[1]))
        self.assertTrue(right_by_words(web, told[0], told[1]), (web, told))
        self.assertIs(judged_cover(web, told), True)
        self.assertTrue(lights_all(full_web(len(web[0]), web[1]), told[0]))


class Judged(unittest.TestCase):
    WEB = linked(7, [(0, 1), (1, 2), (2, 3), (3, 4), (4, 5)])
    RIGHT = ((1, 3, 5), ((0, 1), (2, 3), (4, 5)))

    def test_right_ones(self):
        self.assertIs(judged_cover(self.WEB, self.RIGHT), True)
        self.assertIs(judged_cover(self.WEB, ((0, 2, 4), ((0, 1), (2, 3), (4, 5)))), True)
        self.assertIs(judged_cover(self.WEB, ((1, 2, 4), ((0, 1), (2, 3), (4, 5)))), True)
        self.assertIs(judged_cover(EMPTY, ((), ())), True)
        self.assertIs(judged_cover(((1, 2), ()), ((), ())), True)

    def test_a_web_with_an_odd_round(self):
        # A hearth hangs at each of two hearths of the round.
        web = linked(5, [(0, 1), (1, 2), (2, 0), (0, 3), (1, 4)])
        self.assertIs(judged_cover(web, ((0, 1), ((0, 3), (1, 4)))), True)
        self.assertIs(judged_cover(ring_web(3, 1), ((0, 1), ((0, 1),))), False)

    def test_seeds_that_are_no_set(self):
        for seeds in ((3, 1, 5), (1, 3, 3), (1, 3, 7), (-1, 1, 3), (1, 3, FAR), (-FAR, 1, 3), (5, 3, 1)):
            self.assertIs(judged_cover(self.WEB, (seeds, self.RIGHT[1])), False)
        # Four links and four seeds, but these are three hearths.
        self.assertIs(judged_cover(row_web(8, 1), ((1, 3, 5, 5), ((0, 1), (2, 3), (4, 5), (6, 7)))), False)

    def test_seeds_that_miss_a_link(self):
        for seeds in ((1, 3, 6), (0, 2, 5), (0, 3, 5), (1, 2, 3)):
            self.assertIs(judged_cover(self.WEB, (seeds, self.RIGHT[1])), False)

    def test_links_that_are_none_of_the_web(self):
        for links in (((0, 1), (2, 3), (5, 6)), ((0, 2), (1, 3), (4, 5)), ((-1, 0), (2, 3), (4, 5)),
                      ((0, 1), (2, 3), (4, FAR)), ((0, 0), (2, 3), (4, 5))):
            self.assertIs(judged_cover(self.WEB, (self.RIGHT[0], links)), False)

    def test_greater_hearth_first(self):
        for links in (((1, 0), (2, 3), (4, 5)), ((0, 1), (3, 2), (4, 5)), ((0, 1), (2, 3), (5, 4))):
            self.assertIs(judged_cover(self.WEB, (self.RIGHT[0], links)), False)

    def test_out_of_order(self):
        for links in (((2, 3), (0, 1), (4, 5)), ((0, 1), (4, 5), (2, 3)), ((4, 5), (2, 3), (0, 1))):
            self.assertIs(judged_cover(self.WEB, (self.RIGHT[0], links)), False)

    def test_a_hearth_in_common(self):
        for links in (((0, 1), (1, 2), (4, 5)), ((0, 1), (0, 1), (4, 5)), ((0, 1), (2, 3), (3, 4))):
            self.assertIs(judged_cover(self.WEB, (self.RIGHT[0], links)), False)

    def test_another_count(self):
        for cover in (((), ()), ((1, 3, 5), ()), ((), self.RIGHT[1]), ((1, 3, 5), self.RIGHT[1][:2]),
                      ((1, 3, 4, 5), self.RIGHT[1]), ((1, 3), self.RIGHT[1])):
            self.assertIs(judged_cover(self.WEB, cover), False)

    def test_by_the_words(self):
        webs = [linked(4, links) for links in all_links(4)[::3]]
        links = list(combinations(range(4), 2)) + [(1, 0)]
        rows = [some for size in range(4) for some in combinations(links, size)]
        for web in webs:
            for size in range(4):
                for seeds in combinations((0, 1, 2, 3, 4), size):
                    for row in rows:
                        self.assertIs(judged_cover(web, (seeds, row)), right_by_words(web, seeds, row))


class WhatIsTold(unittest.TestCase):
    def test_told_list_can_be_changed(self):
        web = row_web(4, 1)
        told = colours_of(web)
        told.clear()
        self.assertEqual(colours_of(web), [0, 1, 0, 1])
        self.assertEqual(cover_of(web), cover_of(web))
        self.assertEqual(odd_round(ring_web(5, 1)), odd_round(ring_web(5, 1)))


if __name__ == "__main__":
    unittest.main()
