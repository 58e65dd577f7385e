"""Boards: rows and columns of cells where two burning neighbours are enough."""

from kindleweb.errors import BadBoard, BadSet
from kindleweb.webs import MOST_HEARTHS, count_inside, made_web, marked, rises

MOST_ROWS = 40
ENOUGH = 2


def looked_through(rows, columns):
    if min(rows, columns) < 1 or max(rows, columns) > MOST_ROWS:
        raise BadBoard("a board has from 1 to 40 rows and columns")


def board_web(rows, columns):
    looked_through(rows, columns)
    many = rows * columns
    if many > MOST_HEARTHS:
        raise BadBoard("a board of more than 40 cells is no web")
    beside = [(hearth, hearth + 1) for hearth in range(many) if (hearth + 1) % columns > 0]
    below = [(hearth, hearth + columns) for hearth in range(many - columns)]
    return made_web([ENOUGH] * many, beside + below)


def is_cell(rows, columns, cell):
    return cell[0] >= 0 and cell[0] < rows and cell[1] >= 0 and cell[1] < columns


def made_cells(rows, columns, cells):
    looked_through(rows, columns)
    if not rises(cells) or not all([is_cell(rows, columns, cell) for cell in cells]):
        raise BadSet("a set is of rising cells of the board")
    return tuple(cells)


def cells_beside(rows, columns, cell):
    return sides_of(rows, columns, made_cells(rows, columns, [cell])[0])


def sides_of(rows, columns, cell):
    row = cell[0]
    column = cell[1]
    sides = [(row - 1, column), (row, column - 1), (row, column + 1), (row + 1, column)]
    return [side for side in sides if is_cell(rows, columns, side)]


def board_burnt(rows, columns, seeds):
    chosen = made_cells(rows, columns, seeds)
    burning = marked(chosen)
    lit = list(chosen)
    met = {}
    while lit:
        cell = lit.pop()
        for side in sides_of(rows, columns, cell):
            met[side] = met.get(side, 0) + 1
            if met[side] == ENOUGH and side not in burning:
                burning[side] = True
                lit.append(side)
    return tuple(sorted(burning))


def outline(rows, columns, cells):
    chosen = made_cells(rows, columns, cells)
    inside = marked(chosen)
    return sum([4 - count_inside(sides_of(rows, columns, cell), inside) for cell in chosen])


def fewest_on_board(rows, columns):
    looked_through(rows, columns)
    return (rows + columns + 1) // 2


def board_seeds(rows, columns):
    looked_through(rows, columns)
    # The diagonal lights a square at the board's begin; behind it each seed lights two lines more
    # of the longer way, the last one perhaps a single one.
    shorter = min(rows, columns)
    longer = max(rows, columns)
    square = [(line, line) for line in range(shorter)]
    behind = [(0, line) for line in range(shorter + 1, longer, 2)]
    if (longer - shorter) % 2 > 0:
        behind.append((0, longer - 1))
    if rows > columns:
        behind = [(line, start) for start, line in behind]
    return tuple(sorted(square + behind))
