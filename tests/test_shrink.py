import unittest

from drawing import GREATEST, ask, box, changed, draw, grow, look, over, page, shrink

CORNER = """
    ####.
    ####.
    ####.
    .....
"""


class ShrinkTest(unittest.TestCase):
    def test_without_the_outside(self):
        self.assertEqual(changed(CORNER, shrink(0, 1)), ["###..", "###..", ".....", "....."])
        self.assertEqual(changed(CORNER, shrink(0, 2)), ["###..", "###..", ".....", "....."])
        self.assertEqual(changed(CORNER, shrink(0, 4)), ["##...", ".....", ".....", "....."])

    def test_with_the_outside(self):
        self.assertEqual(changed(CORNER, shrink(1, 1)), [".....", ".##..", ".....", "....."])
        self.assertEqual(changed(CORNER, shrink(1, 4)), [".....", ".....", ".....", "....."])

    def test_a_corner_counts_from_r_2_on(self):
        picture = """
            .....
            .###.
            .###.
            .####
            ..###
        """
        self.assertEqual(changed(picture, shrink(0, 1)), [".....", ".....", "..#..", "..##.", "...##"])
        self.assertEqual(changed(picture, shrink(0, 2)), [".....", ".....", "..#..", ".....", "...##"])
        self.assertEqual(changed(picture, shrink(1, 1)), [".....", ".....", "..#..", "..##.", "....."])
        self.assertEqual(changed(picture, shrink(1, 2)), [".....", ".....", "..#..", ".....", "....."])

    def test_all_chosen(self):
        start = (page(6, 5), over())
        for r in (0, 1, 3, 4, GREATEST):
            with self.subTest(r=r):
                self.assertEqual(ask(*start, shrink(0, r)), [0, 30, 30])
        self.assertEqual(look(6, 5, *start, shrink(1, 0)), ["######"] * 5)
        for r in (1, 2, 3):
            with self.subTest(r=r):
                self.assertEqual(
                    look(6, 5, *start, shrink(1, r)), ["......", ".####.", ".####.", ".####.", "......"])
        for r in (4, 5, 8):
            with self.subTest(r=r):
                self.assertEqual(
                    look(6, 5, *start, shrink(1, r)), ["......", "......", "..##..", "......", "......"])
        self.assertEqual(ask(*start, shrink(1, 9)), [0, 30, 0])
        self.assertEqual(ask(*start, shrink(1, GREATEST)), [0, 30, 0])

    def test_each_side_of_the_page_counts_as_outside(self):
        for w, h in ((1, 1), (1, 16), (16, 1), (16, 16), (2, 9)):
            with self.subTest(w=w, h=h):
                self.assertEqual(ask(page(w, h), over(), shrink(1, 0))[-1], w * h)
                self.assertEqual(ask(page(w, h), over(), shrink(1, 1))[-1], max(0, w - 2) * max(0, h - 2))
        self.assertEqual(ask(page(16, 16), over(), shrink(1, 63), shrink(1, 64)), [0, 256, 4, 0])

    def test_r_0_changes_nothing(self):
        for e in (0, 1):
            with self.subTest(e=e):
                self.assertEqual(changed("#.# ### ..#", shrink(e, 0)), ["#.#", "###", "..#"])

    def test_great_r(self):
        for e in (0, 1):
            with self.subTest(e=e):
                self.assertEqual(changed("### ##. ###", shrink(e, GREATEST)), ["...", "...", "..."])

    def test_nothing_chosen(self):
        for e in (0, 1):
            for r in (0, 1, GREATEST):
                with self.subTest(e=e, r=r):
                    self.assertEqual(ask(page(4, 4), shrink(e, r)), [0, 0])

    def test_refused_e_leaves_all_as_it_was(self):
        for e in (2, 3, 256, GREATEST):
            for r in (0, 1, GREATEST):
                with self.subTest(e=e, r=r):
                    self.assertEqual(ask(*draw(CORNER), shrink(e, r))[-1], -2)
                    self.assertEqual(ask(*draw(CORNER), shrink(e, r), over())[-1], 8)
        self.assertEqual(changed(CORNER, shrink(2, 1)), ["####.", "####.", "####.", "....."])

    def test_without_the_outside_it_is_to_grow_what_is_not_chosen(self):
        for r in range(12):
            with self.subTest(r=r):
                self.assertEqual(changed(CORNER, shrink(0, r)), changed(CORNER, over(), grow(r), over()))

    def test_only_the_cells_of_the_page_are_counted(self):
        self.assertEqual(ask(page(3, 3), box(0, 0, 9, 9, 0), shrink(1, 1)), [0, 9, 1])


if __name__ == "__main__":
    unittest.main()
