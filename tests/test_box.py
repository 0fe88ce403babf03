import unittest

from drawing import GREATEST, ask, box, changed, look, over, page

LEFT = """
    ##..
    ##..
    ....
"""


class BoxTest(unittest.TestCase):
    def test_how_0_it_alone(self):
        self.assertEqual(changed(LEFT, box(1, 1, 2, 2, 0)), ["....", ".##.", ".##."])

    def test_how_1_it_too(self):
        self.assertEqual(changed(LEFT, box(1, 1, 2, 2, 1)), ["##..", "###.", ".##."])

    def test_how_2_it_not_any_more(self):
        self.assertEqual(changed(LEFT, box(1, 1, 2, 2, 2)), ["##..", "#...", "...."])

    def test_how_3_only_what_is_in_both(self):
        self.assertEqual(changed(LEFT, box(1, 1, 2, 2, 3)), ["....", ".#..", "...."])

    def test_how_4_what_is_in_just_one(self):
        self.assertEqual(changed(LEFT, box(1, 1, 2, 2, 4)), ["##..", "#.#.", ".##."])

    def test_the_answer_is_how_many_are_chosen_then(self):
        for how, count in enumerate((4, 7, 3, 1, 6)):
            with self.subTest(how=how):
                self.assertEqual(ask(page(4, 3), box(0, 0, 2, 2, 0), box(1, 1, 2, 2, how)), [0, 4, count])

    def test_refused_how_leaves_all_as_it_was(self):
        for how in (5, 6, 255, 256, GREATEST):
            with self.subTest(how=how):
                self.assertEqual(ask(page(4, 3), box(0, 0, 2, 2, how)), [0, -2])
                self.assertEqual(changed(LEFT, box(1, 1, 2, 2, how)), ["##..", "##..", "...."])
                self.assertEqual(ask(page(4, 3), box(9, 9, 0, 0, how), over()), [0, -2, 12])

    def test_no_columns_or_no_rows(self):
        for u, v in ((0, 2), (2, 0), (0, 0), (0, GREATEST), (GREATEST, 0)):
            for how, count in enumerate((0, 4, 4, 0, 4)):
                with self.subTest(u=u, v=v, how=how):
                    self.assertEqual(ask(page(4, 3), box(0, 0, 2, 2, 0), box(0, 0, u, v, how)), [0, 4, count])

    def test_it_begins_beyond_the_page(self):
        for x, y in ((4, 0), (0, 3), (4, 3), (GREATEST, 0), (0, GREATEST), (GREATEST, GREATEST)):
            for size in (1, GREATEST):
                with self.subTest(x=x, y=y, size=size):
                    self.assertEqual(ask(page(4, 3), box(x, y, size, size, 0)), [0, 0])
                    self.assertEqual(ask(page(4, 3), over(), box(x, y, size, size, 2)), [0, 12, 12])

    def test_it_reaches_beyond_the_page(self):
        for u, v in ((5, 4), (2, 2), (GREATEST, 2), (2, GREATEST), (GREATEST, GREATEST)):
            with self.subTest(u=u, v=v):
                self.assertEqual(look(4, 3, page(4, 3), box(2, 1, u, v, 0)), ["....", "..##", "..##"])

    def test_x_is_the_column_and_u_the_columns(self):
        self.assertEqual(look(5, 4, page(5, 4), box(3, 0, 1, 3, 0)), ["...#.", "...#.", "...#.", "....."])
        self.assertEqual(look(5, 4, page(5, 4), box(1, 3, 3, 1, 0)), [".....", ".....", ".....", ".###."])

    def test_the_last_cell_of_the_greatest_page(self):
        self.assertEqual(ask(page(16, 16), box(15, 15, 1, 1, 0), box(0, 0, 15, 16, 3)), [0, 1, 0])
        self.assertEqual(ask(page(16, 16), box(15, 15, 1, 1, 0), box(15, 15, 9, 9, 4)), [0, 1, 0])


if __name__ == "__main__":
    unittest.main()
