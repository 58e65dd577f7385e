import unittest
from itertools import product

from kindleweb.boards import board_web
from kindleweb.errors import BadBoard, TooMany
from kindleweb.strips import strip_count, strip_counts, strip_least, strip_seeds, strip_web
from tests.samples import FAR, burnt_by_words, row_web, sets_of

SINGLE = [(want,) for want in range(7)]
DOUBLE = list(product(range(7), repeat=2))
WRONG_WANTS = ((), (1, 1, 1), (-1,), (7,), (1, 7), (7, 1), (-1, 1), (1, -1), (FAR,), (-FAR, 0), (0, 0, 0, 0), (7, 7, 7))
CALLS = (strip_web, strip_count, strip_counts, strip_least, strip_seeds)


def bounds_of(wants):
    short = 40 // len(wants)
    return ((strip_web, short), (strip_count, 300), (strip_counts, 60), (strip_least, 300), (strip_seeds, short))


def counts_by_words(wants, length):
    web = strip_web(wants, length)
    counts = [0] * (len(web[0]) + 1)
    for seeds in sets_of(len(web[0])):
        if len(burnt_by_words(web, seeds)) == len(web[0]):
            counts[len(seeds)] += 1
    return counts


def small_strips():
    strips = [(wants, length) for wants in SINGLE for length in range(8)]
    strips += [(wants, length) for wants in DOUBLE for length in range(4)]
    return strips + [(wants, 4) for wants in product((1, 2, 3), repeat=2)]


class StripWebs(unittest.TestCase):
    def test_edges(self):
        self.assertEqual(strip_web((3,), 0), ((), ()))
        self.assertEqual(strip_web([3, 1], 0), ((), ()))
        self.assertEqual(strip_web((3,), 1), ((3,), ()))
        self.assertEqual(strip_web([3, 1], 1), ((3, 1), ((0, 1),)))

    def test_ordinary(self):
        self.assertEqual(strip_web([0], 3), ((0, 0, 0), ((0, 1), (1, 2))))
        self.assertEqual(strip_web((6, 5), 2), ((6, 5, 6, 5), ((0, 1), (0, 2), (1, 3), (2, 3))))
        self.assertEqual(strip_web((1, 2), 3)[1], ((0, 1), (0, 2), (1, 3), (2, 3), (2, 4), (3, 5), (4, 5)))

    def test_beside_rows_and_boards(self):
        for length in range(1, 41):
            self.assertEqual(strip_web((4,), length), row_web(length, 4))
        for length in range(1, 21):
            self.assertEqual(strip_web((2, 2), length), board_web(length, 2))
            self.assertEqual(strip_web((2, 5), length), ((2, 5) * length, board_web(length, 2)[1]))


class Counts(unittest.TestCase):
    def test_edges(self):
        for wants in SINGLE + DOUBLE:
            self.assertEqual(strip_count(wants, 0), 1)
            self.assertEqual(strip_counts(wants, 0), [1])
        self.assertEqual(strip_counts((0,), 1), [1, 1])
        self.assertEqual(strip_counts((1,), 1), [0, 1])
        self.assertEqual(strip_counts([1, 1], 1), [0, 2, 1])
        self.assertEqual(strip_counts([1, 2], 1), [0, 1, 1])
        self.assertEqual(strip_counts([6, 6], 1), [0, 0, 1])

    def test_beside_all_sets_of_seeds(self):
        for wants, length in small_strips():
            asked = counts_by_words(wants, length)
            told = strip_counts(wants, length)
            self.assertIs(type(told), list)
            self.assertEqual(told, asked, (wants, length))
            self.assertEqual(strip_counts(list(wants), length), asked)
            self.assertEqual(strip_count(wants, length), sum(asked))

    def test_the_counts_sum_to_the_count_of_all(self):
        for wants in SINGLE + DOUBLE:
            for length in (5, 20, 59, 60):
                told = strip_counts(wants, length)
                self.assertEqual(len(told), len(wants) * length + 1)
                self.assertEqual(sum(told), strip_count(wants, length))

    def test_long_ones(self):
        # Where none is wanted each set lights, where more than there are just the whole, where one is just not none.
        for length in (60, 299, 300):
            self.assertEqual(strip_count((0,), length), 2 ** length)
            self.assertEqual(strip_count((0, 0), length), 4 ** length)
            self.assertEqual(strip_count((1,), length), 2 ** length - 1)
            self.assertEqual(strip_count((1, 1), length), 4 ** length - 1)
            self.assertEqual(strip_count((3,), length), 1)
            self.assertEqual(strip_count((4, 6), length), 1)

    def test_a_long_row_that_wants_two(self):
        # Both ends are seeds, and of two that follow one another one is: as many as there are such rows.
        ways = [1, 1]
        while len(ways) < 300:
            ways.append(ways[-1] + ways[-2])
        for length in (1, 2, 3, 60, 300):
            self.assertEqual(strip_count((2,), length), ways[length - 1])


class Least(unittest.TestCase):
    def test_edges(self):
        for wants in SINGLE + DOUBLE:
            self.assertEqual(strip_least(wants, 0), 0)
            self.assertEqual(strip_seeds(wants, 0), ())
        self.assertEqual(strip_least((0,), 300), 0)
        self.assertEqual(strip_least([1, 1], 300), 1)
        self.assertEqual(strip_least([2], 300), 151)
        self.assertEqual(strip_least((2, 2), 300), 151)
        self.assertEqual(strip_least((5, 0), 300), 300)
        self.assertEqual(strip_least((6, 6), 300), 600)

    def test_as_few_as_the_counts_tell(self):
        for wants in SINGLE + DOUBLE:
            for length in (1, 2, 3, 7, 30, 60):
                counts = strip_counts(wants, length)
                least = strip_least(wants, length)
                self.assertGreater(counts[least], 0)
                self.assertEqual(counts[:least], [0] * least)

    def test_such_seeds_light_the_strip(self):
        for wants in SINGLE + DOUBLE:
            most = 40 // len(wants)
            for length in (1, 2, 3, 4, 9, most - 1, most):
                web = strip_web(wants, length)
                seeds = strip_seeds(wants, length)
                self.assertIs(type(seeds), tuple)
                self.assertEqual(seeds, tuple(sorted(set(seeds))))
                self.assertEqual(len(seeds), strip_least(wants, length))
                self.assertEqual(len(burnt_by_words(web, seeds)), len(web[0]))
                self.assertEqual(strip_seeds(list(wants), length), seeds)


class Refused(unittest.TestCase):
    def test_wrong_wants_ahead_of_a_great_length(self):
        for wants in WRONG_WANTS:
            for length in (-1, 0, 1, 21, 41, 301, FAR):
                for call in CALLS:
                    for handed in (wants, list(wants)):
                        with self.assertRaises(BadBoard):
                            call(handed, length)

    def test_a_length_below_0(self):
        for wants in ((1,), [6, 0]):
            for length in (-1, -300, -FAR):
                for call in CALLS:
                    with self.assertRaises(BadBoard):
                        call(wants, length)

    def test_each_at_its_own_bound(self):
        for wants in ((0,), [1], (6,), (1, 2), [0, 6]):
            for call, most in bounds_of(wants):
                call(wants, most)
                for length in (most + 1, most + 100, FAR):
                    with self.assertRaises(TooMany, msg=(call, length)):
                        call(wants, length)


class WhatIsHandedIn(unittest.TestCase):
    def test_lists_stay_and_are_not_kept(self):
        wants = [2, 1]
        told = [call(wants, 3) for call in CALLS]
        self.assertEqual(wants, [2, 1])
        wants.clear()
        self.assertEqual(told, [call((2, 1), 3) for call in CALLS])
        told[2].clear()
        self.assertEqual(len(strip_counts((2, 1), 3)), 7)


if __name__ == "__main__":
    unittest.main()
