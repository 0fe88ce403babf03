"""The document's words said once more with sets, slow and plain, to hold the program against."""

import re

NAMES = "page box disk over grow shrink ring fill keep far soft runs counts pieces holes".split()


def distance(one, other):
    return (one[0] - other[0]) ** 2 + (one[1] - other[1]) ** 2


def in_order(cells):
    return sorted(cells, key=lambda cell: (cell[1], cell[0]))


def parted(cells, reach):
    """The cells in pieces: two that are apart by no more than reach (1 by sides, 2 with corners) are of one piece."""
    parts = []
    for cell in cells:
        touched = [part for part in parts if any(distance(cell, other) <= reach for other in part)]
        parts = [part for part in parts if part not in touched] + [set().union({cell}, *touched)]
    return sorted(parts, key=lambda part: in_order(part)[0][::-1])


def listed(parts):
    return [len(parts)] + [number for part in parts for number in (*in_order(part)[0], len(part))]


class Model:
    def __init__(self):
        self.w, self.h, self.chosen = 1, 1, set()

    def cells(self):
        return {(x, y) for x in range(self.w) for y in range(self.h)}

    def answer(self, call):
        """All numbers that are answered to the call, in a list."""
        answered = getattr(self, NAMES[call[0]])(*call[1:])
        return answered if isinstance(answered, list) else [answered]

    def choose(self, cells):
        self.chosen = set(cells)
        return len(self.chosen)

    def come(self, new, how):
        old = self.chosen
        if how > 4:
            return -2
        return self.choose((new, old | new, old - new, old & new, old ^ new)[how])

    def page(self, w, h):
        if w not in range(1, 17) or h not in range(1, 17):
            return -1
        self.w, self.h, self.chosen = w, h, set()
        return 0

    def box(self, x, y, u, v, how):
        return self.come({(a, b) for a, b in self.cells() if a in range(x, x + u) and b in range(y, y + v)}, how)

    def disk(self, x, y, r, how):
        return self.come(self.near({(x, y)}, r), how)

    def near(self, places, r):
        return {(x, y) for x, y in self.cells() if any((x - a) ** 2 + (y - b) ** 2 <= r for a, b in places)}

    def over(self):
        return self.choose(self.cells() - self.chosen)

    def grow(self, r):
        return self.choose(self.near(self.chosen, r))

    def shrink(self, e, r):
        if e > 1:
            return -2
        away = self.cells() - self.chosen
        if e == 1:
            wide = {(x, y) for x in range(-3, self.w + 3) for y in range(-3, self.h + 3)}
            away |= wide - self.cells()
        return self.choose(self.cells() - self.near(away, r))

    def ring(self, r):
        return self.choose(self.near(self.chosen, r) - self.chosen)

    def fill(self):
        # From a frame around the page, through what isn't chosen, with corners: what's not reached is chosen or a hole.
        wide = {(x, y) for x in range(-1, self.w + 1) for y in range(-1, self.h + 1)}
        free = wide - self.chosen
        reached, fresh = set(), {(-1, -1)}
        while fresh:
            reached |= fresh
            fresh = {(x + a, y + b) for x, y in fresh for a in (-1, 0, 1) for b in (-1, 0, 1)} & free - reached
        return self.choose(self.cells() - reached)

    def keep(self, x, y):
        if (x, y) not in self.chosen:
            return -3
        return self.choose(*[part for part in parted(self.chosen, 1) if (x, y) in part])

    def far(self, x, y):
        if (x, y) not in self.cells():
            return -1
        if not self.chosen:
            return -3
        d, b, a = min((distance((x, y), (a, b)), b, a) for a, b in self.chosen)
        return [d, a, b]

    def soft(self, k):
        if k not in range(1, 65):
            return -1
        return [self.degree(cell, k) for cell in in_order(self.cells())]

    def degree(self, cell, k):
        mine = cell in self.chosen
        others = [other for other in self.cells() if (other in self.chosen) != mine]
        if not others:
            return 255 if mine else 0
        d = min(distance(cell, other) for other in others)
        # Without a quotient: a square isn't more than the quotient rounded down if k k times it isn't more than 16384 d.
        s = max(root for root in range(256) if root * root * k * k <= 16384 * d)
        return min(255, 127 + s) if mine else max(0, 128 - s)

    def picture(self):
        return ["".join("#" if (x, y) in self.chosen else "." for x in range(self.w)) for y in range(self.h)]

    def runs(self):
        found = [(y, run.start(), run.end() - 1)
                 for y, row in enumerate(self.picture()) for run in re.finditer("#+", row)]
        return [len(found)] + [number for run in found for number in run]

    def closed_parts(self):
        """The pieces, with corners, of what isn't chosen that are in no first or last row or column."""
        inner = {(x, y) for x in range(1, self.w - 1) for y in range(1, self.h - 1)}
        return [part for part in parted(self.cells() - self.chosen, 2) if part <= inner]

    def counts(self):
        xs, ys = [x for x, y in self.chosen], [y for x, y in self.chosen]
        pairs = sum(distance(one, other) == 1 for one in self.chosen for other in self.chosen)
        return (
            [len(self.chosen)] + ([min(xs), max(xs), min(ys), max(ys)] if xs else [])
            + [4 * len(self.chosen) - pairs, len(parted(self.chosen, 1)), len(self.closed_parts())])

    def pieces(self):
        return listed(parted(self.chosen, 1))

    def holes(self):
        return listed(self.closed_parts())
