"""The holes in what is chosen."""

from softedges.cells import put_all, unchosen_cells
from softedges.pieces import pieces_of

WITH_CORNERS = ((-1, -1), (0, -1), (1, -1), (-1, 0), (1, 0), (-1, 1), (0, 1), (1, 1))


def is_on_rim(page, cell):
    """Whether the cell is in the first or last row or column."""
    return cell[0] in (0, page.columns - 1) or cell[1] in (0, page.rows - 1)


def reaches_rim(page, piece):
    """Whether the piece has a cell in the first or last row or column."""
    return any([is_on_rim(page, cell) for cell in piece])


def holes_of(page):
    """The pieces, with corners, of what isn't chosen that don't reach the rim."""
    return [piece for piece in pieces_of(unchosen_cells(page), WITH_CORNERS) if not reaches_rim(page, piece)]


def filled(page):
    """What is chosen, and the holes too."""
    inside = {}
    for hole in holes_of(page):
        put_all(inside, hole)
    return [was or cell in inside for cell, was in zip(page.cells, page.chosen)]
