"""The pieces that cells fall into."""

from softedges.cells import SIDES, chosen_cells, members_of, moved, put_all


def piece_from(start, members, steps):
    """All cells of the dict members that a way from start leads to, as the keys of a dict, start ahead."""
    reached = {start: True}
    waiting = [start]
    while waiting:
        cell = waiting.pop()
        for step in steps:
            beside = moved(cell, step)
            if beside in members and beside not in reached:
                reached[beside] = True
                waiting.append(beside)
    return reached


def pieces_of(cells, steps):
    """The pieces of the cells in the order of their first cells: dicts with the cells as keys, the first one ahead."""
    members = members_of(cells)
    seen = {}
    pieces = []
    for cell in cells:
        if cell not in seen:
            piece = piece_from(cell, members, steps)
            put_all(seen, piece)
            pieces.append(piece)
    return pieces


def chosen_pieces(page):
    """The pieces of what is chosen."""
    return pieces_of(chosen_cells(page), SIDES)


def kept(page, cell):
    """Which cells are of the same piece as this chosen one."""
    piece = piece_from(cell, members_of(chosen_cells(page)), SIDES)
    return [other in piece for other in page.cells]


def pieces_told(pieces):
    """How many there are; of each column and row of its first cell and how many cells it has."""
    numbers = [len(pieces)]
    for piece in pieces:
        first = list(piece)[0]
        numbers.extend([first[0], first[1], len(piece)])
    return numbers
