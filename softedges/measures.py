"""What is told of chosen cells: their runs, how far they reach, their open sides."""

from softedges.cells import SIDES, members_of, moved


def without_beside(cells, step):
    """Those of the cells, in order, from which the step leads to none of them."""
    members = members_of(cells)
    return [cell for cell in cells if moved(cell, step) not in members]


def runs_told(cells):
    """How many runs the cells make; of each its row, its first column and its last one."""
    # In the order of the cells each run's first cell and then its last one come before those of the next run.
    firsts = without_beside(cells, (-1, 0))
    lasts = without_beside(cells, (1, 0))
    numbers = [len(firsts)]
    for first, last in zip(firsts, lasts):
        numbers.extend([first[1], first[0], last[0]])
    return numbers


def bounds(cells):
    """The least and greatest of their columns, the least and greatest of their rows; nothing if there are none."""
    if not cells:
        return []
    columns = [cell[0] for cell in cells]
    rows = [cell[1] for cell in cells]
    return [min(columns), max(columns), min(rows), max(rows)]


def open_sides(cells):
    """How many sides of the cells are no other one's side, too."""
    return sum([len(without_beside(cells, step)) for step in SIDES])
