import unittest

from drawing import ask, box, changed, draw, fill, over, page


class FillTest(unittest.TestCase):
    def check(self, before, after):
        self.assertEqual(changed(before, fill()), after.split())
        self.assertEqual(ask(*draw(before), fill())[-1], after.count("#"))

    def test_a_hole(self):
        self.check("..... .###. .#.#. .###. .....", "..... .###. .###. .###. .....")

    def test_a_hole_of_several_cells(self):
        self.check("###### #....# ##.#.# ######", "###### ###### ###### ######")

    def test_a_choice_with_no_hole(self):
        self.check("..... .###. .###. .....", "..... .###. .###. .....")
        self.check("..... .###. .#... .###. .....", "..... .###. .#... .###. .....")

    def test_closed_by_sides_but_open_by_a_corner(self):
        self.check("..... ..##. .#.#. .###. .....", "..... ..##. .#.#. .###. .....")
        self.check("..... ..#.. .#.#. ..#.. .....", "..... ..#.. .#.#. ..#.. .....")
        self.check("..... .###. .#.#. .##.. .....", "..... .###. .#.#. .##.. .....")
        self.check("..... .##.. .#.#. .###. .....", "..... .##.. .#.#. .###. .....")
        self.check("..... .###. .#.#. ..##. .....", "..... .###. .#.#. ..##. .....")

    def test_a_hole_hangs_together_by_corners(self):
        self.check("###### #.#### ##.### ###.## ######", " ".join(["######"] * 5))
        self.check("###### ####.# ###.## ##.### ######", " ".join(["######"] * 5))

    def test_what_gets_out_by_corners_is_no_hole(self):
        for before in ("###### #.#### ##.### ###.## ####.#", "###### ####.# ###.## ##.### #.####"):
            with self.subTest(before=before):
                self.check(before, before)

    def test_a_way_out_goes_up_by_a_corner(self):
        for before in ("##### #.### ##.#. ###.# #####", "##### ###.# .#.## #.### #####"):
            with self.subTest(before=before):
                self.check(before, before)

    def test_what_reaches_a_first_or_last_row_or_column_is_no_hole(self):
        for before in ("#.# #.# ###", "### #.# #.#", "### ..# ###", "### #.. ###"):
            with self.subTest(before=before):
                self.check(before, before)

    def test_a_corner_of_the_page_is_in_the_first_or_last_row(self):
        for before in (".## #.# ###", "##. #.# ###", "### #.# .##", "### #.# ##."):
            with self.subTest(before=before):
                self.check(before, before)

    def test_a_single_cell_at_the_page_s_edge_is_no_hole(self):
        for before in ("#.# ### ###", "### ### #.#", "### .## ###", "### ##. ###"):
            with self.subTest(before=before):
                self.check(before, before)

    def test_several_holes(self):
        self.check("####### #.#.#.# ####### #..##.# #######", "####### ####### ####### ####### #######")
        self.check("####### #.#.#.. ####### #..##.# #######", "####### #####.. ####### ####### #######")

    def test_a_chosen_piece_within_a_hole(self):
        self.check("####### #.....# #.###.# #.#.#.# #.###.# #.....# #######", " ".join(["#######"] * 7))
        self.check("##### #...# #.#.# #...# #####", " ".join(["#####"] * 5))

    def test_twice_is_as_once(self):
        picture = "..... .###. .#.#. .###. ....."
        self.assertEqual(changed(picture, fill(), fill()), changed(picture, fill()))

    def test_nothing_all_and_pages_with_no_inside(self):
        for w, h in ((1, 1), (1, 16), (16, 1), (2, 2), (16, 16)):
            with self.subTest(w=w, h=h):
                self.assertEqual(ask(page(w, h), fill()), [0, 0])
                self.assertEqual(ask(page(w, h), over(), fill()), [0, w * h, w * h])
        self.check("#.#.#", "#.#.#")

    def test_the_greatest_hole(self):
        self.assertEqual(ask(page(16, 16), over(), box(1, 1, 14, 14, 2), fill()), [0, 256, 60, 256])
        self.assertEqual(ask(page(16, 16), over(), box(1, 1, 15, 14, 2), fill()), [0, 256, 46, 46])


if __name__ == "__main__":
    unittest.main()
