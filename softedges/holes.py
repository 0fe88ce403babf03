"""The holes in what is chosen."""

from softedges.cells import marked_cells, turned_over

WITH_CORNERS = ((-1, -1), (0, -1), (1, -1), (-1, 0), (1, 0), (-1, 1), (0, 1), (1, 1))


def put_all(members, cells):
    """Put the cells into the dict members."""
    for cell in cells:
        members[cell] = True


def piece_from(start, members, steps):
    """All cells of the dict members that a way from start leads to, as the keys of a dict."""
    reached = {start: True}
    waiting = [start]
    while waiting:
        cell = waiting.pop()
        for step in steps:
            beside = (cell[0] + step[0], cell[1] + step[1])
            if beside in members and beside not in reached:
                reached[beside] = True
                waiting.append(beside)
    return reached


def pieces_of(cells, steps):
    """The pieces that the cells fall into, each a dict with its cells as keys, in the order of their first cells."""
    members = {}
    put_all(members, cells)
    seen = {}
    pieces = []
    for cell in cells:
        if cell not in seen:
            piece = piece_from(cell, members, steps)
            put_all(seen, piece)
            pieces.append(piece)
    return pieces


def is_on_rim(page, cell):
    """Whether the cell is in the first or last row or column."""
    return cell[0] in (0, page.columns - 1) or cell[1] in (0, page.rows - 1)


def reaches_rim(page, piece):
    """Whether the piece has a cell in the first or last row or column."""
    return any([is_on_rim(page, cell) for cell in piece])


def holes_of(page):
    """The pieces, with corners, of what isn't chosen that don't reach the rim."""
    unchosen = marked_cells(page.cells, turned_over(page.chosen))
    return [piece for piece in pieces_of(unchosen, WITH_CORNERS) if not reaches_rim(page, piece)]


def filled(page):
    """What is chosen, and the holes too."""
    inside = {}
    for hole in holes_of(page):
        put_all(inside, hole)
    return [was or cell in inside for cell, was in zip(page.cells, page.chosen)]
