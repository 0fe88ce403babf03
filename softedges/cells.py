"""The page, its cells in order, which are beside one another, and how far two are apart."""

# From a cell to those that have a side in common with it.
SIDES = ((0, -1), (-1, 0), (1, 0), (0, 1))


class Page:
    """A page of cells; `chosen` tells of each, in the order of `cells`, whether it is chosen."""

    def __init__(self):
        self.lay(1, 1)

    def lay(self, columns, rows):
        """Make it a new page of so many columns and rows, with nothing chosen."""
        self.columns = columns
        self.rows = rows
        self.cells = [(place % columns, place // columns) for place in range(columns * rows)]
        self.chosen = [False] * (columns * rows)


def apart(one, other):
    """How far two cells are apart, squared; either may lie outside of the page."""
    across = one[0] - other[0]
    down = one[1] - other[1]
    return across * across + down * down


def nearest(cell, others):
    """Of the others, one at least, the one least apart from the cell; of several the first."""
    found = others[0]
    least = apart(cell, found)
    for other in others:
        distance = apart(cell, other)
        if distance < least:
            found = other
            least = distance
    return found


def moved(cell, step):
    """The cell, or place outside of the page, that the step leads to."""
    return (cell[0] + step[0], cell[1] + step[1])


def marked_cells(cells, marks):
    """Those of the cells whose mark is True, in order."""
    return [cell for cell, mark in zip(cells, marks) if mark]


def turned_over(marks):
    """The marks with True and False exchanged."""
    return [not mark for mark in marks]


def chosen_cells(page):
    """The chosen cells, in order."""
    return marked_cells(page.cells, page.chosen)


def unchosen_cells(page):
    """The cells that aren't chosen, in order."""
    return marked_cells(page.cells, turned_over(page.chosen))


def put_all(members, cells):
    """Put the cells into the dict members."""
    for cell in cells:
        members[cell] = True


def members_of(cells):
    """A dict with the cells as keys, to be asked with `in`."""
    members = {}
    put_all(members, cells)
    return members
