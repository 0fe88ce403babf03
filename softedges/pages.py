"""The calls on a page: reading them from one list and answering them in order."""

from softedges.cells import Page, turned_over
from softedges.edges import grown, ring_marks, shrunk, shrunk_from_outside
from softedges.holes import filled
from softedges.shapes import box_marks, disk_marks, joined

MOST_COLUMNS_OR_ROWS = 16
LAST_HOW = 4
BAD_SIZE = -1
BAD_HOW = -2
BAD_OUTSIDE = -2


def choose(page, chosen):
    """Make this the choice and answer how many cells are chosen then."""
    page.chosen = chosen
    return [chosen.count(True)]


def is_size(number):
    """Whether a page may have so many columns or rows."""
    return 1 <= number <= MOST_COLUMNS_OR_ROWS


def answer_page(page, numbers):
    """page (w, h)"""
    if not is_size(numbers[0]) or not is_size(numbers[1]):
        return [BAD_SIZE]
    page.lay(numbers[0], numbers[1])
    return [0]


def answer_box(page, numbers):
    """box (x, y, u, v, how)"""
    how = numbers[4]
    if how > LAST_HOW:
        return [BAD_HOW]
    new = box_marks(page.cells, numbers[0], numbers[1], numbers[2], numbers[3])
    return choose(page, joined(page.chosen, new, how))


def answer_disk(page, numbers):
    """disk (x, y, r, how)"""
    how = numbers[3]
    if how > LAST_HOW:
        return [BAD_HOW]
    new = disk_marks(page.cells, numbers[0], numbers[1], numbers[2])
    return choose(page, joined(page.chosen, new, how))


def answer_over(page, numbers):
    """over ()"""
    return choose(page, turned_over(page.chosen))


def answer_grow(page, numbers):
    """grow (r)"""
    return choose(page, grown(page.cells, page.chosen, numbers[0]))


def answer_shrink(page, numbers):
    """shrink (e, r)"""
    outside_counts = numbers[0]
    r = numbers[1]
    if outside_counts > 1:
        return [BAD_OUTSIDE]
    left = shrunk(page.cells, page.chosen, r)
    if outside_counts == 1:
        left = shrunk_from_outside(page, left, r)
    return choose(page, left)


def answer_ring(page, numbers):
    """ring (r)"""
    return choose(page, ring_marks(page.cells, page.chosen, numbers[0]))


def answer_fill(page, numbers):
    """fill ()"""
    return choose(page, filled(page))


# Both are in the order of the calls' numbers, from 0.
HANDLERS = (answer_page, answer_box, answer_disk, answer_over, answer_grow, answer_shrink, answer_ring, answer_fill)
HOW_MANY_NUMBERS = (2, 5, 4, 0, 1, 2, 1, 0)


def answers(calls):
    """For each call of the list, in order: how many numbers are answered, then these."""
    page = Page()
    given = []
    place = 0
    while place < len(calls):
        handler = HANDLERS[calls[place]]
        first = place + 1
        place = first + HOW_MANY_NUMBERS[calls[place]]
        numbers = handler(page, calls[first:place])
        given.append(len(numbers))
        given.extend(numbers)
    return given
