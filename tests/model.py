"""The document's words said once more with sets, slow and plain, to hold the program against."""


class Model:
    def __init__(self):
        self.w, self.h, self.chosen = 1, 1, set()

    def cells(self):
        return {(x, y) for x in range(self.w) for y in range(self.h)}

    def answer(self, call):
        name = ("page", "box", "disk", "over", "grow", "shrink", "ring", "fill")[call[0]]
        return getattr(self, name)(*call[1:])

    def choose(self, cells):
        self.chosen = set(cells)
        return len(self.chosen)

    def come(self, new, how):
        old = self.chosen
        if how > 4:
            return -2
        return self.choose((new, old | new, old - new, old & new, old ^ new)[how])

    def page(self, w, h):
        if w not in range(1, 17) or h not in range(1, 17):
            return -1
        self.w, self.h, self.chosen = w, h, set()
        return 0

    def box(self, x, y, u, v, how):
        return self.come({(a, b) for a, b in self.cells() if a in range(x, x + u) and b in range(y, y + v)}, how)

    def disk(self, x, y, r, how):
        return self.come(self.near({(x, y)}, r), how)

    def near(self, places, r):
        return {(x, y) for x, y in self.cells() if any((x - a) ** 2 + (y - b) ** 2 <= r for a, b in places)}

    def over(self):
        return self.choose(self.cells() - self.chosen)

    def grow(self, r):
        return self.choose(self.near(self.chosen, r))

    def shrink(self, e, r):
        if e > 1:
            return -2
        away = self.cells() - self.chosen
        if e == 1:
            wide = {(x, y) for x in range(-3, self.w + 3) for y in range(-3, self.h + 3)}
            away |= wide - self.cells()
        return self.choose(self.cells() - self.near(away, r))

    def ring(self, r):
        return self.choose(self.near(self.chosen, r) - self.chosen)

    def fill(self):
        # From a frame around the page, through what isn't chosen, with corners: what's not reached is chosen or a hole.
        wide = {(x, y) for x in range(-1, self.w + 1) for y in range(-1, self.h + 1)}
        free = wide - self.chosen
        reached, fresh = set(), {(-1, -1)}
        while fresh:
            reached |= fresh
            fresh = {(x + a, y + b) for x, y in fresh for a in (-1, 0, 1) for b in (-1, 0, 1)} & free - reached
        return self.choose(self.cells() - reached)
