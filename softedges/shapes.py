"""What a box or a disk covers of a page, and how that comes to what is chosen."""

from softedges.cells import apart


def box_marks(cells, x, y, u, v):
    """Which cells are in the u columns from x on and the v rows from y on."""
    return [x <= cell[0] < x + u and y <= cell[1] < y + v for cell in cells]


def disk_marks(cells, x, y, r):
    """Which cells are apart from (x, y) by r or less."""
    middle = (x, y)
    return [apart(cell, middle) <= r for cell in cells]


def is_chosen_then(was, covered, how):
    """Whether a cell is chosen after something new has come, or not come, to it; how is 0 to 4."""
    if how == 0:
        return covered
    if how == 1:
        return was or covered
    if how == 2:
        return was and not covered
    if how == 3:
        return was and covered
    return was != covered


def joined(chosen, new, how):
    """What is chosen after the new cells have come to the chosen ones."""
    return [is_chosen_then(was, covered, how) for was, covered in zip(chosen, new)]
