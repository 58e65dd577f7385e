import unittest

from kindleweb.boards import (board_burnt, board_seeds, board_web, cells_beside, fewest_on_board, outline)
from kindleweb.errors import BadBoard, BadSet
from kindleweb.least import least_many
from kindleweb.spread import burnt
from kindleweb.webs import near
from tests.samples import FAR, row_web, sets_of

WRONG_BOARDS = ((0, 1), (1, 0), (0, 0), (41, 1), (1, 41), (41, 41), (-1, 5), (5, -1), (-3, -4), (0, 41), (FAR, 1),
                (1, -FAR))
# Twice, exchanged, off a board of 3 rows and 4 columns on each side.
WRONG_CELLS = ([(0, 0), (0, 0)], [(0, 1), (0, 0)], [(1, 0), (0, 3)], [(-1, 0)], [(0, -1)], [(3, 0)], [(0, 4)], [(3, 2)],
               [(0, 0), (2, 4)], [(-1, -1), (0, 0)], [(FAR, 0)], [(0, FAR)], [(0, -FAR)], [(-FAR, 0)])


def all_cells(rows, columns):
    return tuple((r, c) for r in range(rows) for c in range(columns))


def beside_by_words(rows, columns, cell):
    return [other for other in all_cells(rows, columns) if abs(other[0] - cell[0]) + abs(other[1] - cell[1]) == 1]


def burnt_on_board(rows, columns, seeds):
    burning = set(seeds)
    while True:
        more = {cell for cell in all_cells(rows, columns) if cell not in burning
                and len(burning.intersection(beside_by_words(rows, columns, cell))) >= 2}
        if not more:
            return tuple(sorted(burning))
        burning |= more


def cell_sets(rows, columns):
    cells = all_cells(rows, columns)
    return [tuple(cells[k] for k in some) for some in sets_of(len(cells))]


class BoardWebs(unittest.TestCase):
    def test_small_ones(self):
        self.assertEqual(board_web(1, 1), ((2,), ()))
        self.assertEqual(board_web(2, 2), ((2,) * 4, ((0, 1), (0, 2), (1, 3), (2, 3))))
        self.assertEqual(board_web(2, 3), ((2,) * 6, ((0, 1), (0, 3), (1, 2), (1, 4), (2, 5), (3, 4), (4, 5))))
        self.assertEqual(board_web(1, 40), row_web(40, 2))
        self.assertEqual(board_web(40, 1), row_web(40, 2))

    def test_neighbours_are_those_of_cells(self):
        for rows, columns in ((1, 7), (7, 1), (3, 5), (5, 8), (8, 5), (4, 10), (20, 2), (6, 6)):
            web = board_web(rows, columns)
            self.assertEqual(web[0], (2,) * (rows * columns))
            for r, c in all_cells(rows, columns):
                asked = [row * columns + column for row, column in beside_by_words(rows, columns, (r, c))]
                self.assertEqual(near(web, r * columns + c), asked)

    def test_more_than_forty_cells(self):
        for rows, columns in ((2, 21), (21, 2), (6, 7), (7, 6), (40, 2), (40, 40), (3, 14)):
            with self.assertRaises(BadBoard):
                board_web(rows, columns)
        for rows, columns in ((5, 8), (4, 10), (2, 20), (20, 2), (40, 1), (3, 13)):
            self.assertEqual(len(board_web(rows, columns)[0]), rows * columns)


class Cells(unittest.TestCase):
    def test_beside(self):
        self.assertEqual(cells_beside(1, 1, (0, 0)), [])
        self.assertEqual(cells_beside(1, 3, (0, 1)), [(0, 0), (0, 2)])
        self.assertEqual(cells_beside(3, 1, (1, 0)), [(0, 0), (2, 0)])
        self.assertEqual(cells_beside(3, 3, (1, 1)), [(0, 1), (1, 0), (1, 2), (2, 1)])
        self.assertEqual(cells_beside(40, 40, (39, 39)), [(38, 39), (39, 38)])
        self.assertEqual(cells_beside(40, 40, (0, 20)), [(0, 19), (0, 21), (1, 20)])

    def test_beside_by_the_words(self):
        for rows, columns in ((1, 6), (6, 1), (2, 2), (4, 5), (40, 2)):
            for cell in all_cells(rows, columns):
                self.assertEqual(cells_beside(rows, columns, cell), beside_by_words(rows, columns, cell))

    def test_no_cell(self):
        for cell in ((-1, 0), (0, -1), (3, 0), (0, 4), (3, 3), (FAR, 0), (0, -FAR)):
            with self.assertRaises(BadSet):
                cells_beside(3, 4, cell)

    def test_told_list_can_be_changed(self):
        cells_beside(3, 3, (1, 1)).clear()
        self.assertEqual(len(cells_beside(3, 3, (1, 1))), 4)


class Burnt(unittest.TestCase):
    def test_edges(self):
        self.assertEqual(board_burnt(1, 1, ()), ())
        self.assertEqual(board_burnt(1, 1, [(0, 0)]), ((0, 0),))
        self.assertEqual(board_burnt(1, 3, ((0, 0), (0, 2))), ((0, 0), (0, 1), (0, 2)))
        self.assertEqual(board_burnt(1, 4, ((0, 0), (0, 3))), ((0, 0), (0, 3)))
        self.assertEqual(board_burnt(40, 40, []), ())
        self.assertEqual(board_burnt(40, 40, all_cells(40, 40)), all_cells(40, 40))

    def test_diagonals(self):
        self.assertEqual(board_burnt(40, 40, [(k, k) for k in range(40)]), all_cells(40, 40))
        self.assertEqual(board_burnt(3, 3, [(0, 0), (1, 1)]), ((0, 0), (0, 1), (1, 0), (1, 1)))
        self.assertEqual(board_burnt(2, 5, [(0, 0), (0, 1), (1, 4)]), ((0, 0), (0, 1), (1, 4)))

    def test_by_the_words(self):
        for rows, columns in ((1, 1), (1, 5), (5, 1), (2, 3), (3, 2), (3, 3)):
            for seeds in cell_sets(rows, columns):
                told = board_burnt(rows, columns, seeds)
                self.assertEqual(told, burnt_on_board(rows, columns, seeds))
                self.assertEqual(board_burnt(rows, columns, list(seeds)), told)
                self.assertEqual([type(part) for part in (told,) + told], [tuple] * (1 + len(told)))

    def test_beside_the_web(self):
        for rows, columns in ((5, 8), (8, 5), (4, 10)):
            web = board_web(rows, columns)
            for step in range(2, 9):
                some = tuple(range(0, rows * columns, step))
                cells = [divmod(k, columns) for k in some]
                asked = tuple(divmod(k, columns) for k in burnt(web, some))
                self.assertEqual(board_burnt(rows, columns, cells), asked)

    def test_great_boards(self):
        for step in (5, 7, 11, 31):
            seeds = all_cells(40, 40)[::step]
            self.assertEqual(board_burnt(40, 40, seeds), burnt_on_board(40, 40, seeds))


class Outlines(unittest.TestCase):
    def test_edges(self):
        self.assertEqual(outline(3, 4, ()), 0)
        self.assertEqual(outline(1, 1, [(0, 0)]), 4)
        self.assertEqual(outline(3, 4, ((1, 2),)), 4)
        self.assertEqual(outline(3, 4, all_cells(3, 4)), 14)
        self.assertEqual(outline(40, 40, list(all_cells(40, 40))), 160)
        self.assertEqual(outline(1, 40, all_cells(1, 40)), 82)

    def test_ordinary(self):
        self.assertEqual(outline(3, 4, [(0, 0), (0, 1)]), 6)
        self.assertEqual(outline(3, 4, [(0, 0), (1, 1)]), 8)
        self.assertEqual(outline(3, 3, [cell for cell in all_cells(3, 3) if cell != (1, 1)]), 16)

    def test_by_the_words(self):
        for rows, columns in ((1, 5), (2, 3), (3, 3)):
            for cells in cell_sets(rows, columns):
                asked = len([1 for r, c in cells for side in ((r - 1, c), (r + 1, c), (r, c - 1), (r, c + 1))
                             if side not in cells])
                self.assertEqual(outline(rows, columns, cells), asked)
                self.assertLessEqual(outline(rows, columns, board_burnt(rows, columns, cells)), asked)


class Fewest(unittest.TestCase):
    def test_counts(self):
        self.assertEqual(fewest_on_board(1, 1), 1)
        self.assertEqual(fewest_on_board(1, 2), 2)
        self.assertEqual(fewest_on_board(3, 4), 4)
        self.assertEqual(fewest_on_board(40, 40), 40)
        self.assertEqual(fewest_on_board(40, 1), 21)

    def test_no_fewer_light_small_boards(self):
        for rows, columns in ((1, 1), (1, 6), (6, 1), (2, 2), (2, 5), (5, 2), (3, 3), (3, 4), (4, 3), (1, 12)):
            self.assertEqual(fewest_on_board(rows, columns), least_many(board_web(rows, columns)))

    def test_seeds_on_every_board(self):
        sides = list(range(1, 13)) + [39, 40]
        for rows in sides:
            for columns in sides:
                self.lit(rows, columns)
        for long in range(13, 39):
            self.lit(1, long)
            self.lit(long, 2)

    def lit(self, rows, columns):
        seeds = board_seeds(rows, columns)
        self.assertIs(type(seeds), tuple)
        self.assertTrue(all(type(cell) is tuple for cell in seeds))
        self.assertEqual(seeds, tuple(sorted(set(seeds))))
        self.assertEqual(len(seeds), fewest_on_board(rows, columns))
        self.assertEqual(len(seeds), (rows + columns + 1) // 2)
        self.assertEqual(board_burnt(rows, columns, seeds), all_cells(rows, columns))
        self.assertGreaterEqual(outline(rows, columns, seeds), 2 * (rows + columns))


class Refused(unittest.TestCase):
    def test_wrong_boards(self):
        for rows, columns in WRONG_BOARDS:
            for call in (board_web, fewest_on_board, board_seeds):
                with self.assertRaises(BadBoard):
                    call(rows, columns)

    def test_wrong_boards_ahead_of_wrong_cells(self):
        for rows, columns in WRONG_BOARDS:
            for call in (board_burnt, outline):
                for cells in [(), ((0, 0),)] + list(WRONG_CELLS):
                    with self.assertRaises(BadBoard):
                        call(rows, columns, cells)
            for cell in ((0, 0), (-1, 0), (50, 50)):
                with self.assertRaises(BadBoard):
                    cells_beside(rows, columns, cell)

    def test_wrong_cells(self):
        for wrong in WRONG_CELLS:
            for cells in (wrong, tuple(wrong)):
                for call in (board_burnt, outline):
                    with self.assertRaises(BadSet):
                        call(3, 4, cells)


class WhatIsHandedIn(unittest.TestCase):
    def test_lists_stay_and_are_not_kept(self):
        seeds = [(0, 0), (1, 1)]
        told = (board_burnt(3, 3, seeds), outline(3, 3, seeds))
        self.assertEqual(seeds, [(0, 0), (1, 1)])
        seeds.clear()
        self.assertEqual(told, (((0, 0), (0, 1), (1, 0), (1, 1)), 8))


if __name__ == "__main__":
    unittest.main()
