"""The soft edge: each cell's degree by how far the nearest cell of the other sort is."""

from softedges.cells import apart, chosen_cells, nearest, unchosen_cells

LEAST_DEGREE = 0
GREATEST_DEGREE = 255
# Together they reach 255, so that no root is found above it.
ROOT_PARTS = (128, 64, 32, 16, 8, 4, 2, 1)


def root(number):
    """The greatest whole number, 255 at the most, whose square isn't more than this number."""
    found = 0
    for part in ROOT_PARTS:
        tried = found + part
        if tried * tried <= number:
            found = tried
    return found


def steps_off(cell, others, k):
    """How many degrees the cell is off the edge towards its own sort; others are all cells of the other sort."""
    d = apart(cell, nearest(cell, others))
    return root(16384 * d // (k * k))


def chosen_degree(cell, unchosen, k):
    """The degree of a chosen cell."""
    if not unchosen:
        return GREATEST_DEGREE
    return min(GREATEST_DEGREE, 127 + steps_off(cell, unchosen, k))


def unchosen_degree(cell, chosen, k):
    """The degree of a cell that isn't chosen."""
    if not chosen:
        return LEAST_DEGREE
    return max(LEAST_DEGREE, 128 - steps_off(cell, chosen, k))


def degrees(page, k):
    """The degrees of all cells, in order, with a soft edge of width k."""
    chosen = chosen_cells(page)
    unchosen = unchosen_cells(page)
    return [
        chosen_degree(cell, unchosen, k) if is_chosen else unchosen_degree(cell, chosen, k)
        for cell, is_chosen in zip(page.cells, page.chosen)
    ]
