import unittest
from itertools import combinations, product

from kindleweb.boards import board_burnt, board_seeds, outline
from kindleweb.boxes import (grown_alone, grown_boxes, growth, hull_of, judged_growth, middling_box, near_boxes)
from kindleweb.errors import BadBoard, BadSet, NoPaper, NoSuch
from tests.samples import FAR
from tests.test_boards import WRONG_BOARDS, WRONG_CELLS, all_cells, cell_sets

SMALL_BOARDS = ((1, 1), (1, 6), (6, 1), (2, 3), (3, 2), (3, 3))


def cells_of(box):
    return [(r, c) for r in range(box[0], box[2] + 1) for c in range(box[1], box[3] + 1)]


def small_boxes(start, end):
    sides = list(range(start, end))
    return [box for box in product(sides, repeat=4) if box[0] <= box[2] and box[1] <= box[3]]


def near_by_words(one, other):
    return min(abs(r - row) + abs(c - column) for r, c in cells_of(one) for row, column in cells_of(other)) <= 2


def single(cell):
    return cell + cell


def other_growth(seeds):
    """A right growth by other steps: each time the greatest pair of near boxes."""
    there = {single(cell) for cell in seeds}
    steps = []
    while True:
        pairs = [(one, other) for one, other in combinations(sorted(there), 2) if near_boxes(one, other)]
        if not pairs:
            return steps
        steps.append(pairs[-1])
        there -= set(pairs[-1])
        there.add(hull_of(*pairs[-1]))


def scattered(rows, columns, step):
    """Seeds on a board, mixed by a plain sum so that they are the same each time; fewer for a greater step."""
    state = step
    chosen = []
    for cell in all_cells(rows, columns):
        state = (state * 1103515245 + 12345) % (1 << 31)
        if (state >> 16) % step == 0:
            chosen.append(cell)
    return tuple(chosen)


class Near(unittest.TestCase):
    def both(self, one, other, asked):
        self.assertIs(near_boxes(one, other), asked, (one, other))
        self.assertIs(near_boxes(other, one), asked, (other, one))

    def test_a_cell_in_common(self):
        self.both((0, 0, 2, 2), (2, 2, 3, 3), True)
        self.both((0, 0, 9, 9), (3, 4, 5, 5), True)
        self.both((0, 2, 9, 2), (5, 0, 5, 9), True)
        self.both((1, 1, 1, 1), (1, 1, 1, 1), True)

    def test_touching(self):
        self.both((0, 0, 1, 1), (0, 2, 1, 3), True)
        self.both((0, 0, 1, 1), (2, 0, 3, 1), True)
        self.both((0, 0, 1, 1), (2, 2, 3, 3), True)
        self.both((0, 2, 1, 3), (2, 0, 3, 1), True)

    def test_one_cell_apart(self):
        self.both((0, 0, 1, 1), (0, 3, 1, 4), True)
        self.both((0, 0, 1, 1), (3, 1, 4, 4), True)
        self.both((0, 0, 1, 1), (2, 3, 3, 4), False)
        self.both((0, 0, 1, 1), (3, 2, 4, 4), False)
        self.both((0, 0, 1, 1), (3, 3, 4, 4), False)

    def test_two_cells_apart(self):
        self.both((0, 0, 1, 1), (0, 4, 1, 5), False)
        self.both((0, 0, 1, 1), (4, 0, 5, 1), False)

    def test_any_numbers(self):
        self.both((-5, -5, -3, -3), (-2, -2, 0, 0), True)
        self.both((-5, -5, -3, -3), (-1, -5, 0, 0), True)
        self.both((-5, -5, -3, -3), (-1, -2, 0, 0), False)
        self.both((-FAR, -FAR, FAR, FAR), (3, 3, 3, 3), True)
        self.both((-FAR, 0, -FAR, 0), (FAR, 0, FAR, 0), False)
        self.both((0, FAR, 0, FAR), (0, FAR - 2, 0, FAR - 2), True)
        self.both((0, FAR, 0, FAR), (0, FAR - 3, 0, FAR - 3), False)

    def test_by_the_words(self):
        for one in small_boxes(-1, 1) + [(-1, 0, 1, 0), (2, -1, 2, 1)]:
            for other in small_boxes(-4, 1) + small_boxes(0, 4):
                self.both(one, other, near_by_words(one, other))


class Hulls(unittest.TestCase):
    def test_ordinary(self):
        self.assertEqual(hull_of((0, 0, 0, 0), (1, 1, 1, 1)), (0, 0, 1, 1))
        self.assertEqual(hull_of((3, 0, 4, 1), (0, 2, 1, 7)), (0, 0, 4, 7))
        self.assertEqual(hull_of((0, 0, 9, 9), (3, 4, 5, 5)), (0, 0, 9, 9))
        self.assertEqual(hull_of((2, 3, 4, 5), (2, 3, 4, 5)), (2, 3, 4, 5))

    def test_any_numbers(self):
        self.assertEqual(hull_of((-7, -2, -5, 3), (-6, -9, -6, -8)), (-7, -9, -5, 3))
        self.assertEqual(hull_of((FAR, FAR, FAR, FAR), (-FAR, 0, -FAR, 0)), (-FAR, 0, FAR, FAR))

    def test_least_box_with_all_cells(self):
        for one in small_boxes(-1, 2):
            for other in small_boxes(0, 3):
                told = hull_of(one, other)
                self.assertIs(type(told), tuple)
                self.assertEqual(told, hull_of(other, one))
                cells = cells_of(one) + cells_of(other)
                heights = [r for r, c in cells]
                widths = [c for r, c in cells]
                self.assertEqual(told, (min(heights), min(widths), max(heights), max(widths)))


class Grown(unittest.TestCase):
    def test_edges(self):
        self.assertEqual(grown_boxes(1, 1, ()), [])
        self.assertEqual(grown_boxes(40, 40, []), [])
        self.assertEqual(grown_boxes(1, 1, [(0, 0)]), [(0, 0, 0, 0)])
        self.assertEqual(grown_boxes(40, 40, [(39, 39)]), [(39, 39, 39, 39)])

    def test_whole_boards(self):
        for rows, columns in ((1, 1), (1, 40), (40, 1), (7, 12), (40, 40)):
            asked = [(0, 0, rows - 1, columns - 1)]
            self.assertEqual(grown_boxes(rows, columns, board_seeds(rows, columns)), asked)
            self.assertEqual(grown_boxes(rows, columns, all_cells(rows, columns)), asked)

    def test_boxes_that_stay_apart(self):
        self.assertEqual(grown_boxes(4, 4, [(0, 0), (0, 3), (3, 0), (3, 3)]),
                         [(0, 0, 0, 0), (0, 3, 0, 3), (3, 0, 3, 0), (3, 3, 3, 3)])
        self.assertEqual(grown_boxes(5, 9, [(0, 5), (0, 7), (2, 0), (3, 1)]), [(0, 5, 0, 7), (2, 0, 3, 1)])

    def test_hull_comes_near_to_a_third(self):
        # Neither of the first two seeds is near the last one; what they grow to is.
        self.assertEqual(grown_boxes(3, 5, [(0, 0), (0, 4), (2, 0)]), [(0, 0, 2, 0), (0, 4, 0, 4)])
        self.assertEqual(grown_boxes(3, 4, [(0, 0), (0, 2), (2, 1)]), [(0, 0, 2, 2)])

    def test_what_burns(self):
        for rows, columns in SMALL_BOARDS:
            for seeds in cell_sets(rows, columns):
                self.right(rows, columns, seeds)
        for rows, columns in ((9, 14), (40, 40)):
            for step in (3, 7, 11, 16, 25, 60):
                self.right(rows, columns, scattered(rows, columns, step))

    def right(self, rows, columns, seeds):
        told = grown_boxes(rows, columns, seeds)
        self.assertIs(type(told), list)
        self.assertTrue(all(type(box) is tuple for box in told))
        self.assertEqual(told, sorted(set(told)))
        covered = tuple(sorted(cell for box in told for cell in cells_of(box)))
        self.assertEqual(covered, board_burnt(rows, columns, seeds))
        self.assertFalse(any(near_boxes(one, other) for one, other in combinations(told, 2)))
        self.assertEqual(grown_boxes(rows, columns, list(seeds)), told)
        for box in told:
            self.assertIs(grown_alone(rows, columns, seeds, box), True)
            own = [cell for cell in seeds if cell in cells_of(box)]
            self.assertGreaterEqual(2 * len(own), box[2] - box[0] + box[3] - box[1] + 2)
            self.assertGreaterEqual(outline(rows, columns, own), 2 * (box[2] - box[0] + box[3] - box[1] + 2))


class GrownAlone(unittest.TestCase):
    SEEDS = [(0, 0), (1, 1), (3, 4)]

    def test_grown_ones_and_parts(self):
        self.assertIs(grown_alone(5, 6, self.SEEDS, (0, 0, 1, 1)), True)
        self.assertIs(grown_alone(5, 6, self.SEEDS, (0, 0, 0, 0)), True)
        self.assertIs(grown_alone(5, 6, self.SEEDS, (3, 4, 3, 4)), True)
        self.assertIs(grown_alone(5, 6, self.SEEDS, (0, 0, 0, 1)), False)
        self.assertIs(grown_alone(5, 6, self.SEEDS, (0, 0, 2, 2)), False)
        self.assertIs(grown_alone(5, 6, self.SEEDS, (0, 0, 3, 4)), False)

    def test_no_seeds_within(self):
        self.assertIs(grown_alone(5, 6, self.SEEDS, (4, 0, 4, 0)), False)
        self.assertIs(grown_alone(5, 6, (), (0, 0, 0, 0)), False)
        self.assertIs(grown_alone(5, 6, self.SEEDS, (0, 1, 0, 1)), False)

    def test_no_box(self):
        for box in ((1, 0, 0, 1), (0, 1, 1, 0), (1, 1, 0, 0), (FAR, 0, 0, 1), (0, 0, -1, 0), (0, 0, 0, -FAR)):
            self.assertIs(grown_alone(5, 6, self.SEEDS, box), False)

    def test_not_on_the_board(self):
        whole = all_cells(2, 3)
        self.assertIs(grown_alone(2, 3, whole, (0, 0, 1, 2)), True)
        for box in ((-1, 0, 1, 2), (0, -1, 1, 2), (0, 0, 2, 2), (0, 0, 1, 3), (-FAR, -FAR, FAR, FAR), (5, 5, 6, 6)):
            self.assertIs(grown_alone(2, 3, whole, box), False)

    def test_by_the_words(self):
        for rows, columns in ((1, 5), (2, 3), (3, 3)):
            for seeds in cell_sets(rows, columns)[::3]:
                for box in small_boxes(0, max(rows, columns)):
                    inside = cells_of(box)
                    on_board = box[2] < rows and box[3] < columns
                    own = [cell for cell in seeds if cell in inside]
                    asked = on_board and list(board_burnt(rows, columns, own)) == inside
                    self.assertIs(grown_alone(rows, columns, seeds, box), asked)


class Growths(unittest.TestCase):
    def test_edges(self):
        self.assertEqual(growth(3, 3, ()), [])
        self.assertEqual(growth(3, 3, [(1, 1)]), [])
        self.assertEqual(growth(1, 4, [(0, 0), (0, 3)]), [])
        self.assertEqual(growth(1, 4, [(0, 0), (0, 2)]), [((0, 0, 0, 0), (0, 2, 0, 2))])
        self.assertEqual(judged_growth(3, 3, (), []), [])
        self.assertEqual(judged_growth(3, 3, [(1, 1)], []), [(1, 1, 1, 1)])
        self.assertEqual(judged_growth(1, 4, [(0, 0), (0, 3)], []), [(0, 0, 0, 0), (0, 3, 0, 3)])

    def test_told_and_judged_right(self):
        for rows, columns in SMALL_BOARDS:
            for seeds in cell_sets(rows, columns):
                self.right(rows, columns, seeds)
        for step in (5, 11, 16):
            self.right(9, 14, scattered(9, 14, step))
        self.right(40, 40, board_seeds(40, 40))
        self.assertEqual(len(growth(40, 40, all_cells(40, 40))), 1599)

    def right(self, rows, columns, seeds):
        asked = grown_boxes(rows, columns, seeds)
        steps = growth(rows, columns, seeds)
        self.assertIs(type(steps), list)
        self.assertTrue(all(type(step) is tuple and len(step) == 2 for step in steps))
        self.steps_may_be_done(seeds, steps, asked)
        for right in (steps, other_growth(seeds)):
            self.assertEqual(judged_growth(rows, columns, seeds, right), asked)

    def steps_may_be_done(self, seeds, steps, asked):
        there = {single(cell) for cell in seeds}
        for one, other in steps:
            self.assertIn(one, there)
            self.assertIn(other, there)
            self.assertLess(one, other)
            self.assertTrue(near_by_words(one, other))
            there -= {one, other}
            there.add(hull_of(one, other))
        self.assertEqual(sorted(there), asked)

    def test_hull_that_is_there_already(self):
        seeds = [(0, 0), (0, 1), (0, 2)]
        steps = [((0, 0, 0, 0), (0, 2, 0, 2)), ((0, 0, 0, 2), (0, 1, 0, 1))]
        self.assertEqual(judged_growth(1, 3, seeds, steps), [(0, 0, 0, 2)])
        # Twice the same hull: of the first pair and, by way of other boxes, of the second one.
        seeds = [(0, 0), (0, 1), (1, 0), (1, 1)]
        steps = [((0, 0, 0, 0), (1, 1, 1, 1)), ((0, 1, 0, 1), (1, 0, 1, 0))]
        self.assertEqual(judged_growth(2, 2, seeds, steps), [(0, 0, 1, 1)])

    def test_not_right(self):
        seeds = [(0, 0), (0, 1), (0, 3), (2, 5)]
        first = ((0, 0, 0, 0), (0, 1, 0, 1))
        second = ((0, 0, 0, 1), (0, 3, 0, 3))
        self.assertEqual(judged_growth(3, 6, seeds, [first, second]), [(0, 0, 0, 3), (2, 5, 2, 5)])
        wrong = (
            [], [first], [second], [second, first],                 # near boxes left, a box not there yet
            [first, second, first], [first, first, second],         # boxes not there any more
            [first, second, ((0, 0, 0, 3), (2, 5, 2, 5))],          # not near
            [first, ((0, 0, 0, 1), (2, 5, 2, 5)), second],
            [((0, 1, 0, 1), (0, 0, 0, 0)), second],                 # the greater first
            [first, ((0, 3, 0, 3), (0, 0, 0, 1))],
            [((0, 0, 0, 0), (0, 0, 0, 0)), first, second],          # two alike
            [first, second, ((2, 5, 2, 5), (2, 5, 2, 5))],
            [((0, 0, 0, 0), (0, 2, 0, 2)), first, second],          # never there
            [((-1, 0, -1, 0), (0, 0, 0, 0)), first, second],
            [((0, 0, 0, 1), (0, 1, 0, 1)), first, second],
            [(), first, second], [(first[0],), first, second],      # no pair
            [first + second[1:], second], [first, second, ()],
            [first, second, second + first],
        )
        for steps in wrong:
            with self.assertRaises(NoPaper, msg=steps):
                judged_growth(3, 6, seeds, steps)

    def test_each_part_of_a_growth_is_needed(self):
        for seeds in (board_seeds(5, 7), scattered(9, 14, 7)):
            steps = growth(9, 14, seeds)
            for place in range(len(steps)):
                with self.assertRaises(NoPaper):
                    judged_growth(9, 14, seeds, steps[:place] + steps[place + 1:])
                with self.assertRaises(NoPaper):
                    judged_growth(9, 14, seeds, steps[:place] + [steps[place][::-1]] + steps[place + 1:])

    def test_seeds_of_another_growth(self):
        steps = growth(3, 4, [(0, 0), (1, 1)])
        for seeds in ((), ((0, 0),), ((0, 0), (1, 2)), ((0, 0), (1, 1), (2, 2))):
            with self.assertRaises(NoPaper):
                judged_growth(3, 4, seeds, steps)


class Middling(unittest.TestCase):
    def test_each_number(self):
        for rows, columns in SMALL_BOARDS:
            for seeds in cell_sets(rows, columns)[1::5]:
                self.each_number(rows, columns, seeds)
        for rows, columns, step in ((9, 14, 7), (9, 14, 11), (12, 12, 9), (20, 40, 14), (40, 40, 17)):
            self.each_number(rows, columns, scattered(rows, columns, step))

    def test_greatest_boards(self):
        for rows, columns in ((40, 40), (1, 40), (40, 1), (40, 7)):
            self.each_number(rows, columns, board_seeds(rows, columns))
        self.each_number(40, 40, all_cells(40, 40))
        self.each_number(1, 40, tuple((0, c) for c in range(0, 40, 2)))

    def each_number(self, rows, columns, seeds):
        grown = grown_boxes(rows, columns, seeds)
        longest = max(max(box[2] - box[0], box[3] - box[1]) + 1 for box in grown)
        for number in range(1, longest + 1):
            told = middling_box(rows, columns, seeds, number)
            self.assertIs(type(told), tuple)
            length = max(told[2] - told[0], told[3] - told[1]) + 1
            self.assertTrue(number <= length <= 2 * number - 1, (number, told))
            self.assertTrue(grown_alone(rows, columns, seeds, told))
            self.assertTrue(any(hull_of(box, told) == box for box in grown))
        for number in (0, -1, -FAR, longest + 1, 2 * longest + 1, FAR):
            with self.assertRaises(NoSuch):
                middling_box(rows, columns, seeds, number)

    def test_no_seeds(self):
        for number in (-1, 0, 1, 2):
            with self.assertRaises(NoSuch):
                middling_box(3, 3, (), number)


class Refused(unittest.TestCase):
    CALLS = (grown_boxes, growth, lambda rows, columns, seeds: judged_growth(rows, columns, seeds, [((1,) * 4,) * 2]),
             lambda rows, columns, seeds: grown_alone(rows, columns, seeds, (3, 3, 0, 0)),
             lambda rows, columns, seeds: middling_box(rows, columns, seeds, 0))

    def test_wrong_boards_ahead_of_all(self):
        for rows, columns in WRONG_BOARDS:
            for call in self.CALLS:
                for seeds in [(), ((0, 0),)] + list(WRONG_CELLS):
                    with self.assertRaises(BadBoard):
                        call(rows, columns, seeds)

    def test_wrong_cells_ahead_of_the_rest(self):
        for wrong in WRONG_CELLS:
            for call in self.CALLS:
                for seeds in (wrong, tuple(wrong)):
                    with self.assertRaises(BadSet):
                        call(3, 4, seeds)

    def test_the_rest(self):
        with self.assertRaises(NoPaper):
            self.CALLS[2](3, 4, [(0, 0)])
        self.assertIs(self.CALLS[3](3, 4, [(0, 0)]), False)
        with self.assertRaises(NoSuch):
            self.CALLS[4](3, 4, [(0, 0)])


class WhatIsHandedIn(unittest.TestCase):
    def test_lists_stay_and_are_not_kept(self):
        seeds = [(0, 0), (1, 1), (2, 2)]
        steps = growth(3, 3, seeds)
        same = list(steps)
        grown = (grown_boxes(3, 3, seeds), judged_growth(3, 3, seeds, steps), middling_box(3, 3, seeds, 2),
                 grown_alone(3, 3, seeds, (0, 0, 2, 2)))
        self.assertEqual(seeds, [(0, 0), (1, 1), (2, 2)])
        self.assertEqual(steps, same)
        seeds.clear()
        steps.clear()
        self.assertEqual(grown[:2], ([(0, 0, 2, 2)],) * 2)
        grown[0].clear()
        grown[1].append(1)
        self.assertEqual(grown_boxes(3, 3, [(0, 0), (1, 1), (2, 2)]), [(0, 0, 2, 2)])
        self.assertEqual(growth(3, 3, [(0, 0), (1, 1), (2, 2)]), same)


if __name__ == "__main__":
    unittest.main()
