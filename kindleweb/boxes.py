"""Boxes on boards: what seeds grow to, and the steps that show it."""

from kindleweb.boards import made_cells
from kindleweb.errors import NoPaper, NoSuch
from kindleweb.webs import marked

MOST_STEPS_APART = 2


def near_boxes(one, other):
    between_rows = gap(one[0], one[2], other[0], other[2])
    between_columns = gap(one[1], one[3], other[1], other[3])
    return between_rows + between_columns <= MOST_STEPS_APART


def gap(start, end, other_start, other_end):
    return max(0, other_start - end, start - other_end)


def hull_of(one, other):
    return (min(one[0], other[0]), min(one[1], other[1]), max(one[2], other[2]), max(one[3], other[3]))


def cell_boxes(cells):
    return [(row, column, row, column) for row, column in cells]


def grown_boxes(rows, columns, seeds):
    return judged_growth(rows, columns, seeds, growth(rows, columns, seeds))


def growth(rows, columns, seeds):
    settled = []
    steps = []
    for box in cell_boxes(made_cells(rows, columns, seeds)):
        # No two settled boxes are near, so each step joins the one that still grows with one of them.
        growing = box
        close = first_near(settled, growing)
        while close is not None:
            steps.append((min(growing, close), max(growing, close)))
            growing = hull_of(growing, close)
            settled.remove(close)
            close = first_near(settled, growing)
        settled.append(growing)
    return steps


def first_near(boxes, box):
    for other in boxes:
        if near_boxes(other, box):
            return other
    return None


def judged_growth(rows, columns, seeds, steps):
    there = marked(cell_boxes(made_cells(rows, columns, seeds)))
    for step in steps:
        if not may_be_done(there, step):
            raise NoPaper("a step is of two near boxes that are there, the lesser first")
        there.pop(step[0])
        there.pop(step[1])
        there[hull_of(step[0], step[1])] = True
    boxes = sorted(there)
    for turn, box in enumerate(boxes):
        if first_near(boxes[:turn], box) is not None:
            raise NoPaper("near boxes are left behind the last step")
    return boxes


def may_be_done(there, step):
    if not isinstance(step, tuple) or len(step) != 2:
        return False
    if step[0] not in there or step[1] not in there:
        return False
    return step[0] < step[1] and near_boxes(step[0], step[1])


def grown_alone(rows, columns, seeds, box):
    # Seeds light boxes on the board alone, so what is no such box is never all that they grow to.
    own = [cell for cell in made_cells(rows, columns, seeds) if has_cell(box, cell)]
    return grown_boxes(rows, columns, own) == [box]


def has_cell(box, cell):
    return box[0] <= cell[0] and cell[0] <= box[2] and box[1] <= cell[1] and cell[1] <= box[3]


def middling_box(rows, columns, seeds, length):
    steps = growth(rows, columns, seeds)
    boxes = cell_boxes(seeds) + [hull_of(one, other) for one, other in steps]
    if length >= 1:
        # The first box that is so long is one cell, or the hull of two near shorter ones: these and
        # a cell between them make it at most 2 * length - 1 long.
        for box in boxes:
            if length_of(box) >= length:
                return box
    raise NoSuch("no grown box is so long")


def length_of(box):
    return max(box[2] - box[0], box[3] - box[1]) + 1
