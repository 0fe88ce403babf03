"""The page, its cells in order, and how far two cells are apart."""


class Page:
    """A page of cells; `chosen` tells of each, in the order of `cells`, whether it is chosen."""

    def __init__(self):
        self.lay(1, 1)

    def lay(self, columns, rows):
        """Make it a new page of so many columns and rows, with nothing chosen."""
        self.columns = columns
        self.rows = rows
        self.cells = [(place % columns, place // columns) for place in range(columns * rows)]
        self.chosen = [False] * (columns * rows)


def apart(one, other):
    """How far two cells are apart, squared; either may lie outside of the page."""
    across = one[0] - other[0]
    down = one[1] - other[1]
    return across * across + down * down


def marked_cells(cells, marks):
    """Those of the cells whose mark is True, in order."""
    return [cell for cell, mark in zip(cells, marks) if mark]


def turned_over(marks):
    """The marks with True and False exchanged."""
    return [not mark for mark in marks]
