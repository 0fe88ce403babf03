"""The calls on a page: reading them from one list and answering them in order."""

from softedges.cells import Page, apart, chosen_cells, nearest, turned_over
from softedges.edges import grown, ring_marks, shrunk, shrunk_from_outside
from softedges.holes import filled, holes_of
from softedges.measures import bounds, open_sides, runs_told
from softedges.pieces import chosen_pieces, kept, pieces_told
from softedges.shapes import box_marks, disk_marks, joined
from softedges.soft import degrees

MOST_COLUMNS_OR_ROWS = 16
LAST_HOW = 4
GREATEST_WIDTH = 64
BAD_SIZE = -1
BAD_HOW = -2
BAD_OUTSIDE = -2
NOT_CHOSEN = -3
NO_SUCH_CELL = -1
NOTHING_CHOSEN = -3
BAD_WIDTH = -1


def choose(page, chosen):
    """Make this the choice and answer how many cells are chosen then."""
    page.chosen = chosen
    return [chosen.count(True)]


def is_size(number):
    """Whether a page may have so many columns or rows."""
    return 1 <= number <= MOST_COLUMNS_OR_ROWS


def answer_page(page, numbers):
    """page (w, h)"""
    if not is_size(numbers[0]) or not is_size(numbers[1]):
        return [BAD_SIZE]
    page.lay(numbers[0], numbers[1])
    return [0]


def answer_box(page, numbers):
    """box (x, y, u, v, how)"""
    how = numbers[4]
    if how > LAST_HOW:
        return [BAD_HOW]
    new = box_marks(page.cells, numbers[0], numbers[1], numbers[2], numbers[3])
    return choose(page, joined(page.chosen, new, how))


def answer_disk(page, numbers):
    """disk (x, y, r, how)"""
    how = numbers[3]
    if how > LAST_HOW:
        return [BAD_HOW]
    new = disk_marks(page.cells, numbers[0], numbers[1], numbers[2])
    return choose(page, joined(page.chosen, new, how))


def answer_over(page, numbers):
    """over ()"""
    return choose(page, turned_over(page.chosen))


def answer_grow(page, numbers):
    """grow (r)"""
    return choose(page, grown(page.cells, page.chosen, numbers[0]))


def answer_shrink(page, numbers):
    """shrink (e, r)"""
    outside_counts = numbers[0]
    r = numbers[1]
    if outside_counts > 1:
        return [BAD_OUTSIDE]
    left = shrunk(page.cells, page.chosen, r)
    if outside_counts == 1:
        left = shrunk_from_outside(page, left, r)
    return choose(page, left)


def answer_ring(page, numbers):
    """ring (r)"""
    return choose(page, ring_marks(page.cells, page.chosen, numbers[0]))


def answer_fill(page, numbers):
    """fill ()"""
    return choose(page, filled(page))


def answer_keep(page, numbers):
    """keep (x, y)"""
    cell = (numbers[0], numbers[1])
    if cell not in chosen_cells(page):
        return [NOT_CHOSEN]
    return choose(page, kept(page, cell))


def answer_far(page, numbers):
    """far (x, y)"""
    cell = (numbers[0], numbers[1])
    if cell not in page.cells:
        return [NO_SUCH_CELL]
    chosen = chosen_cells(page)
    if not chosen:
        return [NOTHING_CHOSEN]
    found = nearest(cell, chosen)
    return [apart(cell, found), found[0], found[1]]


def answer_soft(page, numbers):
    """soft (k)"""
    k = numbers[0]
    if not 1 <= k <= GREATEST_WIDTH:
        return [BAD_WIDTH]
    return degrees(page, k)


def answer_runs(page, numbers):
    """runs ()"""
    return runs_told(chosen_cells(page))


def answer_counts(page, numbers):
    """counts ()"""
    chosen = chosen_cells(page)
    return [len(chosen)] + bounds(chosen) + [open_sides(chosen), len(chosen_pieces(page)), len(holes_of(page))]


def answer_pieces(page, numbers):
    """pieces ()"""
    return pieces_told(chosen_pieces(page))


def answer_holes(page, numbers):
    """holes ()"""
    return pieces_told(holes_of(page))


# Both are in the order of the calls' numbers, from 0.
HANDLERS = (
    answer_page, answer_box, answer_disk, answer_over, answer_grow, answer_shrink, answer_ring, answer_fill,
    answer_keep, answer_far, answer_soft, answer_runs, answer_counts, answer_pieces, answer_holes,
)
HOW_MANY_NUMBERS = (2, 5, 4, 0, 1, 2, 1, 0, 2, 2, 1, 0, 0, 0, 0)


def answers(calls):
    """For each call of the list, in order: how many numbers are answered, then these."""
    page = Page()
    given = []
    place = 0
    while place < len(calls):
        handler = HANDLERS[calls[place]]
        first = place + 1
        place = first + HOW_MANY_NUMBERS[calls[place]]
        numbers = handler(page, calls[first:place])
        given.append(len(numbers))
        given.extend(numbers)
    return given
