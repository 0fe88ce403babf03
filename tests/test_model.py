"""Many lines of calls, the same at each run, answered by the program and by the plain model."""

import random
import unittest

from drawing import (
    GREATEST, box, counts, disk, far, fill, grow, holes, keep, look, over, page, pieces, ring, runs, shrink, soft, told)
from model import Model


def some_call(source, w, h):
    """One call that suits a page of about this size; now and then one that is refused."""
    x, y = source.randint(0, w), source.randint(0, h)
    how = source.choice((0, 1, 1, 1, 2, 3, 4, 4, 4, 5))
    r = source.choice((0, 1, 1, 2, 2, 3, 4, 5, 8, 9, 10, 13, GREATEST))
    return source.choice((
        page(source.randint(0, 17), source.randint(0, 17)),
        box(x, y, source.randint(0, w), source.randint(0, h), how),
        box(x, y, source.randint(1, 3), source.randint(1, 3), source.choice((1, 2, 4))),
        box(x, y, source.randint(1, w), 1, 4),
        box(x, y, 1, source.randint(1, h), 4),
        disk(x, y, source.randint(0, 40), how),
        disk(x, y, r, source.choice((1, 2, 4))),
        over(),
        grow(r),
        shrink(source.choice((0, 0, 0, 1, 1, 1, 2)), r),
        ring(r),
        fill(),
        keep(x, y),
        far(x, y),
        soft(source.choice((0, 1, 2, 3, 4, 5, 7, 10, 16, 33, 64, 65))),
        runs(),
        counts(),
        pieces(),
        holes(),
    ))


def some_line(source, longest):
    w, h = source.randint(1, longest), source.randint(1, longest)
    return [page(w, h)] + [some_call(source, w, h) for place in range(39)]


def some_fill(source):
    """Scattered cells, so that there are holes of many forms, and then fill."""
    w, h = source.randint(3, 9), source.randint(3, 9)
    dots = [box(source.randrange(w), source.randrange(h), source.randint(1, 2), 1, 2) for place in range(30)]
    return [page(w, h), over()] + dots[:source.randint(1, 30)] + [fill()]


def some_scattered(source):
    """Scattered cells, for each line more or fewer, and then all that can be told of them, and one piece of them."""
    w, h = source.randint(1, 16), source.randint(1, 16)
    dots = [box(source.randrange(w), source.randrange(h), source.randint(1, 3), source.randint(1, 3), 4)
            for place in range(source.randint(1, 26))]
    x, y = source.randint(0, w), source.randint(0, h)
    asked = [soft(source.randint(1, 64)), runs(), counts(), pieces(), holes(), far(x, y), keep(x, y), counts()]
    return [page(w, h)] + [over()] * source.randint(0, 1) + dots + asked


class ModelTest(unittest.TestCase):
    def check(self, calls):
        model = Model()
        expected = [model.answer(call) for call in calls]
        self.assertEqual(told(*calls), expected, calls)

    def within(self, calls):
        """As many of the calls as one line may have numbers for."""
        while sum(map(len, calls)) > 260:
            calls = calls[:-1]
        return calls

    def test_lines_of_all_sorts(self):
        source = random.Random(1)
        for number in range(150):
            self.check(self.within(some_line(source, 9 if number % 5 else 16)))

    def test_the_choice_cell_by_cell(self):
        source = random.Random(3)
        for number in range(150):
            calls = some_line(source, 6)[:8]
            model = Model()
            for call in calls:
                model.answer(call)
            self.assertEqual(look(model.w, model.h, *calls), model.picture(), calls)

    def test_fill(self):
        source = random.Random(2)
        for number in range(300):
            self.check(self.within(some_fill(source)))

    def test_all_that_is_told_of_scattered_cells(self):
        source = random.Random(4)
        for number in range(150):
            self.check(self.within(some_scattered(source)))


if __name__ == "__main__":
    unittest.main()
