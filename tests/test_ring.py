import unittest

from drawing import GREATEST, ask, box, changed, draw, over, page, ring

BLOCK = """
    ......
    .##...
    .##...
    ......
    ......
"""


class RingTest(unittest.TestCase):
    def test_r_0_leaves_nothing(self):
        self.assertEqual(changed(BLOCK, ring(0)), ["......"] * 5)

    def test_small_r(self):
        self.assertEqual(changed(BLOCK, ring(1)), [".##...", "#..#..", "#..#..", ".##...", "......"])
        self.assertEqual(changed(BLOCK, ring(2)), ["####..", "#..#..", "#..#..", "####..", "......"])
        self.assertEqual(changed(BLOCK, ring(4)), ["####..", "#..##.", "#..##.", "####..", ".##..."])

    def test_great_r(self):
        for r in (25, GREATEST):
            with self.subTest(r=r):
                self.assertEqual(changed(BLOCK, ring(r)), ["######", "#..###", "#..###", "######", "######"])

    def test_nothing_and_all(self):
        for r in (0, 1, 5, GREATEST):
            with self.subTest(r=r):
                self.assertEqual(ask(page(6, 5), ring(r)), [0, 0])
                self.assertEqual(ask(page(6, 5), over(), ring(r)), [0, 30, 0])

    def test_nothing_that_was_chosen_is_in_it(self):
        for r in (0, 1, 2, 3, 4, 5, 8, 9, 100, GREATEST):
            with self.subTest(r=r):
                self.assertEqual(ask(*draw(BLOCK), ring(r), box(1, 1, 2, 2, 3))[-1], 0)


if __name__ == "__main__":
    unittest.main()
