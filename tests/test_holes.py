import unittest

from drawing import box, changed, checkered, counts, draw, fill, holes, last, over, page, told


class HolesTest(unittest.TestCase):
    def check(self, picture, answer):
        self.assertEqual(last(*draw(picture), holes()), answer)

    def test_column_and_row_of_the_first_cell_and_how_many(self):
        self.check("..... .###. .#.#. .###. .....", [1, 2, 2, 1])
        self.check("###### #.##.# #....# ######", [1, 1, 1, 6])
        self.check("##### ###.# #...# #####", [1, 3, 1, 4])

    def test_in_the_order_of_their_first_cells(self):
        self.check("####### #.#.#.# ####### #..##.# #######", [5, 1, 1, 1, 3, 1, 1, 5, 1, 1, 1, 3, 2, 5, 3, 1])
        self.check("####### #####.# #.###.# #.###.# #######", [2, 5, 1, 3, 1, 2, 2])

    def test_holes_with_only_a_corner_in_common_are_one(self):
        self.check("#### #.## ##.# ####", [1, 1, 1, 2])
        self.check("#### ##.# #.## ####", [1, 2, 1, 2])
        self.check("##### #.#.# ##.## #.#.# #####", [1, 1, 1, 5])
        self.check("###### #..### ###..# ######", [1, 1, 1, 4])

    def test_apart_by_a_whole_cell_they_are_two(self):
        self.check("##### #.#.# #####", [2, 1, 1, 1, 3, 1, 1])
        self.check("##### ##.## ##### #.### #####", [2, 2, 1, 1, 1, 3, 1])

    def test_a_corner_in_common_with_what_reaches_the_page_s_edge(self):
        for picture in (".### #.## #### ####", "###. ##.# #### ####", "#### #### #.## .###", "#### #### ##.# ###."):
            with self.subTest(picture=picture):
                self.check(picture, [0])
        self.check("#### #.## ##.. ####", [0])
        self.check("##### #.### ##.## ###.# ####.", [0])
        self.check("..... ..#.. .#.#. ..#.. .....", [0])
        self.check("..... .###. .#.#. .##.. .....", [0])

    def test_one_is_left_where_another_gets_out(self):
        self.check("####### #.###.# ####.## #######", [2, 1, 1, 1, 5, 1, 2])
        self.check("####### #.###.# ####.## ###.###", [1, 1, 1, 1])

    def test_a_cell_in_each_first_or_last_row_or_column(self):
        for picture in ("#.# #.# ###", "### #.# #.#", "### ..# ###", "### #.. ###"):
            with self.subTest(picture=picture):
                self.check(picture, [0])
        for picture in ("#.# ### ###", "### ### #.#", "### .## ###", "### ##. ###"):
            with self.subTest(picture=picture):
                self.check(picture, [0])

    def test_the_outside_of_the_page_joins_nothing(self):
        # The chosen cells at the page's edge close the hole, as nothing goes around outside.
        self.check("### #.# ###", [1, 1, 1, 1])
        self.check("#### #..# #..# ####", [1, 1, 1, 4])

    def test_a_chosen_piece_in_a_hole(self):
        self.check("##### #...# #.#.# #...# #####", [1, 1, 1, 8])
        self.check("####### #.....# #.###.# #.#.#.# #.###.# #.....# #######", [2, 1, 1, 16, 3, 3, 1])

    def test_nothing_all_and_pages_with_no_inside(self):
        for w, h in ((1, 1), (1, 16), (16, 1), (2, 2), (2, 16), (16, 16)):
            with self.subTest(w=w, h=h):
                self.assertEqual(last(page(w, h), holes()), [0])
                self.assertEqual(last(page(w, h), over(), holes()), [0])
        self.check("#.#.#", [0])
        self.check("##### #...#", [0])
        self.assertEqual(told(holes()), [[0]])

    def test_the_greatest_and_the_most(self):
        self.assertEqual(last(page(16, 16), over(), box(1, 1, 14, 14, 2), holes()), [1, 1, 1, 196])
        start = [page(15, 15)]
        start += [box(x, 0, 1, 15, 1) for x in range(0, 15, 2)]
        start += [box(0, y, 15, 1, 1) for y in range(0, 15, 2)]
        expected = [(x, y, 1) for y in range(1, 15, 2) for x in range(1, 15, 2)]
        self.assertEqual(last(*start, holes()), [49] + [number for hole in expected for number in hole])

    def test_a_checkered_page_hangs_together_by_corners(self):
        self.assertEqual(last(*checkered(16, 16), holes()), [0])
        # With a frame around it, all that isn't chosen is one hole.
        frame = [box(0, 0, 16, 1, 1), box(0, 15, 16, 1, 1), box(0, 0, 1, 16, 1), box(15, 0, 1, 16, 1)]
        self.assertEqual(last(*checkered(16, 16), *frame, holes()), [1, 1, 1, 98])

    def test_after_fill_there_are_none(self):
        picture = "####### #.#.#.# ####### #..##.# #######"
        self.assertEqual(told(*draw(picture), fill(), holes(), counts())[-3:], [[35], [0], [35, 0, 6, 0, 4, 24, 1, 0]])

    def test_all_is_as_it_was(self):
        picture = "##### #.#.# ##### ....."
        self.assertEqual(changed(picture, holes()), picture.split())


if __name__ == "__main__":
    unittest.main()
