import unittest

from drawing import GREATEST, ask, box, changed, checkered, disk, draw, far, grow, last, over, page, told


class FarTest(unittest.TestCase):
    def check(self, picture, x, y, answer):
        self.assertEqual(last(*draw(picture), far(x, y)), answer)

    def test_how_far_and_where(self):
        self.check("..... ....# .....", 0, 0, [17, 4, 1])
        self.check("..... ....# .....", 1, 2, [10, 4, 1])
        self.check("#.... ..... .....", 4, 2, [20, 0, 0])

    def test_a_chosen_cell_is_its_own_nearest(self):
        self.check("##### ##### #####", 3, 1, [0, 3, 1])
        self.check("#.... ....# .....", 4, 1, [0, 4, 1])
        self.assertEqual(told(over(), far(0, 0)), [[1], [0, 0, 0]])

    def test_the_least_apart_and_not_the_first(self):
        self.check("#.... ..... ....#", 3, 2, [1, 4, 2])
        self.check("#.... ..... ....#", 1, 0, [1, 0, 0])

    def test_a_corner_is_further_than_a_side(self):
        self.check("#.. ..# ...", 1, 1, [1, 2, 1])
        self.check("#.. ... .#.", 1, 1, [1, 1, 2])

    def test_two_corners_on_are_nearer_than_three_straight_on(self):
        self.check("...#... ....... .....#. .......", 3, 3, [5, 5, 2])

    def test_of_several_the_first_row(self):
        self.check(".#. #.# .#.", 1, 1, [1, 1, 0])
        self.check("... #.# .#.", 1, 1, [1, 0, 1])
        self.check("... ..# .#.", 1, 1, [1, 2, 1])
        self.check("#.# ... #.#", 1, 1, [2, 0, 0])
        self.check("..# ... #.#", 1, 1, [2, 2, 0])

    def test_of_several_in_a_row_the_first_column(self):
        self.check("#...#", 2, 0, [4, 0, 0])
        self.check("... #.# ...", 1, 1, [1, 0, 1])
        self.check("... ... #.#", 1, 1, [2, 0, 2])

    def test_the_first_row_even_where_the_column_is_later(self):
        self.check("..... ....# ..... #.... .....", 2, 2, [5, 4, 1])
        self.check("...#. ..... .....  .#... .....", 2, 2, [2, 1, 3])
        self.check("...#. ..... ..... ..... .#...", 2, 2, [5, 3, 0])

    def test_as_near_by_other_steps(self):
        # 25 apart: five across or down, or three and four.
        start = [page(11, 11), disk(5, 5, 25, 0), disk(5, 5, 24, 2)]
        ring = [(5, 0), (2, 1), (8, 1), (1, 2), (9, 2), (0, 5), (10, 5), (1, 8), (9, 8), (2, 9), (8, 9), (5, 10)]
        self.assertEqual(ask(*start), [0, 81, 12])
        for x, y in ring:
            with self.subTest(x=x, y=y):
                self.assertEqual(last(*start, far(5, 5)), [25, x, y])
                start.append(box(x, y, 1, 1, 2))
        self.assertEqual(last(*start, far(5, 5)), [-3])

    def test_on_a_checkered_page(self):
        self.assertEqual(
            told(*checkered(16, 16), far(0, 0), far(1, 1), far(15, 15), far(2, 0), far(1, 0))[-5:],
            [[1, 1, 0], [1, 1, 0], [1, 15, 14], [1, 1, 0], [0, 1, 0]])

    def test_the_greatest_distance(self):
        self.assertEqual(last(page(16, 16), box(0, 0, 1, 1, 0), far(15, 15)), [450, 0, 0])
        self.assertEqual(last(page(16, 16), box(15, 15, 1, 1, 0), far(0, 0)), [450, 15, 15])
        self.assertEqual(last(page(16, 1), box(15, 0, 1, 1, 0), far(0, 0)), [225, 15, 0])
        self.assertEqual(last(page(1, 16), box(0, 15, 1, 1, 0), far(0, 0)), [225, 0, 15])

    def test_there_is_no_such_cell(self):
        for x, y in ((5, 0), (0, 3), (5, 3), (6, 0), (0, 4), (GREATEST, 0), (0, GREATEST), (GREATEST, GREATEST)):
            with self.subTest(x=x, y=y):
                self.assertEqual(last(page(5, 3), over(), far(x, y)), [-1])
                self.assertEqual(last(page(5, 3), box(4, 2, 1, 1, 0), far(x, y)), [-1])

    def test_nothing_is_chosen(self):
        self.assertEqual(told(far(0, 0)), [[-3]])
        for x, y in ((0, 0), (4, 0), (0, 2), (4, 2)):
            with self.subTest(x=x, y=y):
                self.assertEqual(last(page(5, 3), far(x, y)), [-3])
                self.assertEqual(last(page(5, 3), over(), over(), far(x, y)), [-3])

    def test_of_both_refusals_the_first(self):
        for x, y in ((5, 0), (0, 3), (GREATEST, GREATEST)):
            with self.subTest(x=x, y=y):
                self.assertEqual(last(page(5, 3), far(x, y)), [-1])
        self.assertEqual(told(far(1, 0), far(0, 1), far(0, 0)), [[-1], [-1], [-3]])

    def test_all_is_as_it_was(self):
        picture = "#..#. ..#.. ....#"
        for x, y in ((0, 0), (1, 1), (5, 0), (0, 3), (GREATEST, 1)):
            with self.subTest(x=x, y=y):
                self.assertEqual(changed(picture, far(x, y)), picture.split())
        self.assertEqual(told(page(5, 3), far(9, 9), far(1, 1), over())[1:], [[-1], [-3], [15]])

    def test_it_is_what_has_to_be_grown_by(self):
        picture = "....... .#..... ....... ......# ......."
        for x, y in ((0, 0), (3, 0), (4, 2), (6, 0), (2, 4), (6, 4)):
            with self.subTest(x=x, y=y):
                d = last(*draw(picture), far(x, y))[0]
                self.assertEqual(last(*draw(picture), grow(d), far(x, y)), [0, x, y])
                self.assertNotEqual(last(*draw(picture), grow(d - 1), far(x, y))[0], 0)


if __name__ == "__main__":
    unittest.main()
