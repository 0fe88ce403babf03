"""Moving the edge of what is chosen: grown, shrunk, and the ring around it."""

from softedges.cells import apart, marked_cells, turned_over


def is_near(cell, others, r):
    """Whether the cell is apart from one of the others by r or less."""
    for other in others:
        if apart(cell, other) <= r:
            return True
    return False


def grown(cells, marks, r):
    """Which cells are apart from a marked cell by r or less."""
    sources = marked_cells(cells, marks)
    # A marked cell is 0 apart from itself, so it needs no search.
    return [mark or is_near(cell, sources, r) for cell, mark in zip(cells, marks)]


def shrunk(cells, marks, r):
    """Which cells aren't apart by r or less from any cell of the page that isn't marked."""
    return turned_over(grown(cells, turned_over(marks), r))


def outside_apart(page, cell):
    """How far the nearest place outside of the page is from the cell, squared."""
    # Straight across the nearest side is the shortest way out; a place beyond a corner is never nearer.
    steps = min(cell[0] + 1, page.columns - cell[0], cell[1] + 1, page.rows - cell[1])
    return steps * steps


def shrunk_from_outside(page, marks, r):
    """Which marked cells aren't apart by r or less from any place outside of the page."""
    return [mark and outside_apart(page, cell) > r for cell, mark in zip(page.cells, marks)]


def ring_marks(cells, marks, r):
    """Which cells are in what's grown by r and weren't marked."""
    return [now and not was for was, now in zip(marks, grown(cells, marks, r))]
