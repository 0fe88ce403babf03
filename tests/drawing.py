"""Writing calls, drawing a choice and looking at one, by way of the program's answers alone."""

from softedges.pages import answers

GREATEST = 4294967295


def page(w, h):
    return [0, w, h]


def box(x, y, u, v, how):
    return [1, x, y, u, v, how]


def disk(x, y, r, how):
    return [2, x, y, r, how]


def over():
    return [3]


def grow(r):
    return [4, r]


def shrink(e, r):
    return [5, e, r]


def ring(r):
    return [6, r]


def fill():
    return [7]


def keep(x, y):
    return [8, x, y]


def far(x, y):
    return [9, x, y]


def soft(k):
    return [10, k]


def runs():
    return [11]


def counts():
    return [12]


def pieces():
    return [13]


def holes():
    return [14]


def line(calls):
    """The calls one behind another, as they are handed in."""
    if not 1 <= len(calls) <= 40:
        raise ValueError("a line has 1 to 40 calls")
    numbers = [number for call in calls for number in call]
    if len(numbers) > 260:
        raise ValueError("a line has at most 260 numbers")
    return numbers


def told(*calls):
    """What is answered to each call, a list of numbers each."""
    given = answers(line(calls))
    found = []
    place = 0
    while place < len(given):
        count = given[place]
        found.append(given[place + 1:place + 1 + count])
        if count < 1 or len(found[-1]) != count:
            raise AssertionError("a count doesn't tell how many numbers follow: %r" % (given,))
        place += 1 + count
    if len(found) != len(calls):
        raise AssertionError("not one answer for each call: %r" % (given,))
    return found


def last(*calls):
    """What is answered to the last call."""
    return told(*calls)[-1]


def ask(*calls):
    """What is answered to each call, one number each."""
    found = told(*calls)
    if any(len(numbers) != 1 for numbers in found):
        raise AssertionError("not one number for each call: %r" % (found,))
    return [numbers[0] for numbers in found]


def rows_of(picture):
    return picture.split()


def runs_in(picture):
    """Row, first column and length of each run of # in the picture."""
    found = []
    for y, row in enumerate(rows_of(picture)):
        x = 0
        while x < len(row):
            length = len(row[x:]) - len(row[x:].lstrip("#"))
            if length:
                found.append((y, x, length))
            x += length or 1
    return found


def draw(picture):
    """Calls after which just the cells with a # are chosen."""
    rows = rows_of(picture)
    return [page(len(rows[0]), len(rows))] + [box(x, y, length, 1, 1) for y, x, length in runs_in(picture)]


def look(columns, rows, *calls):
    """The picture of what is chosen after the calls, asked cell by cell."""
    return [
        "".join("#" if last(*calls, box(x, y, 1, 1, 3))[0] else "." for x in range(columns))
        for y in range(rows)
    ]


def changed(picture, *calls):
    """The picture after the calls, which leave the page's size as it is."""
    rows = rows_of(picture)
    return look(len(rows[0]), len(rows), *draw(picture), *calls)


def checkered(w, h):
    """Calls after which every other cell of a w by h page is chosen, the first one not among them."""
    return (
        [page(w, h)]
        + [box(x, 0, 1, h, 4) for x in range(1, w, 2)]
        + [box(0, y, w, 1, 4) for y in range(1, h, 2)])
