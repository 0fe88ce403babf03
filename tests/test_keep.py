import unittest

from drawing import (
    GREATEST, ask, box, changed, checkered, counts, draw, fill, holes, keep, last, look, over, page, pieces, runs, soft,
    told)

TWO = """
    ##...
    .#..#
    ....#
"""


class KeepTest(unittest.TestCase):
    def check(self, before, x, y, after):
        self.assertEqual(changed(before, keep(x, y)), after.split())
        self.assertEqual(last(*draw(before), keep(x, y)), [after.count("#")])

    def test_the_piece_with_that_cell_alone(self):
        for x, y in ((0, 0), (1, 0), (1, 1)):
            with self.subTest(x=x, y=y):
                self.check(TWO, x, y, "##... .#... .....")
        for x, y in ((4, 1), (4, 2)):
            with self.subTest(x=x, y=y):
                self.check(TWO, x, y, "..... ....# ....#")

    def test_pieces_that_touch_by_a_corner_alone(self):
        self.check("##. ##. ..#", 0, 0, "##. ##. ...")
        self.check("##. ##. ..#", 1, 1, "##. ##. ...")
        self.check("##. ##. ..#", 2, 2, "... ... ..#")
        self.check("..# ##. ##.", 2, 0, "..# ... ...")
        self.check("..# ##. ##.", 1, 1, "... ##. ##.")
        self.check("#.# .#. #.#", 1, 1, "... .#. ...")

    def test_every_cell_of_a_checkered_page_is_a_piece(self):
        for x, y in ((1, 0), (15, 0), (0, 1), (14, 15), (8, 7)):
            with self.subTest(x=x, y=y):
                self.assertEqual(told(*checkered(16, 16), keep(x, y), runs())[-2:], [[1], [1, y, x, x]])

    def test_a_winding_way_from_either_end(self):
        picture = "##### ....# ##### #.... #####"
        for x, y in ((0, 0), (4, 4), (0, 3), (2, 2)):
            with self.subTest(x=x, y=y):
                self.check(picture, x, y, picture)

    def test_a_way_up_and_back(self):
        picture = "#.#.. #.#.# ###.#"
        for x, y in ((0, 0), (2, 0), (1, 2)):
            with self.subTest(x=x, y=y):
                self.check(picture, x, y, "#.#.. #.#.. ###..")

    def test_no_way_around_the_page_s_edge(self):
        self.check("..# #.. ...", 2, 0, "..# ... ...")
        self.check("..# #.. ...", 0, 1, "... #.. ...")
        self.check("#.# ... #.#", 0, 0, "#.. ... ...")

    def test_a_piece_within_a_hole_of_another(self):
        picture = "##### #...# #.#.# #...# #####"
        self.check(picture, 2, 2, "..... ..... ..#.. ..... .....")
        self.check(picture, 4, 2, "##### #...# #...# #...# #####")

    def test_all_and_one(self):
        self.assertEqual(ask(page(16, 16), over(), keep(15, 15), keep(0, 0)), [0, 256, 256, 256])
        self.assertEqual(ask(over(), keep(0, 0)), [1, 1])

    def test_twice_is_as_once(self):
        self.assertEqual(ask(*draw(TWO), keep(0, 0), keep(1, 1))[-2:], [3, 3])

    def test_what_was_not_kept_is_not_chosen_any_more(self):
        self.assertEqual(ask(*draw(TWO), keep(0, 0), keep(4, 1), over())[-3:], [3, -3, 12])

    def test_refused_cells(self):
        for x, y in ((2, 0), (0, 1), (3, 1), (0, 2), (3, 2)):
            with self.subTest(x=x, y=y):
                self.assertEqual(last(*draw(TWO), keep(x, y)), [-3])

    def test_refused_places_outside_of_the_page(self):
        # The first ones would be chosen cells if the page's rows were one long row.
        for x, y in ((5, 0), (6, 0), (9, 0), (5, 1), (0, 3), (4, 3), (GREATEST, 0), (0, GREATEST), (GREATEST, GREATEST)):
            with self.subTest(x=x, y=y):
                self.assertEqual(last(*draw(TWO), keep(x, y)), [-3])
                self.assertEqual(last(page(5, 3), over(), keep(x, y)), [-3])
                self.assertEqual(last(page(5, 3), keep(x, y)), [-3])

    def test_nothing_chosen(self):
        self.assertEqual(ask(keep(0, 0)), [-3])
        self.assertEqual(ask(page(3, 3), keep(1, 1)), [0, -3])

    def test_a_refusal_leaves_all_as_it_was(self):
        for x, y in ((2, 0), (5, 0), (0, 3), (GREATEST, GREATEST)):
            with self.subTest(x=x, y=y):
                self.assertEqual(changed(TWO, keep(x, y)), TWO.split())
                for call in (counts(), pieces(), holes(), runs(), soft(5), fill(), over(), box(0, 0, 2, 2, 4)):
                    self.assertEqual(last(*draw(TWO), keep(x, y), call), last(*draw(TWO), call))
        self.assertEqual(look(2, 2, page(2, 2), keep(0, 0)), ["..", ".."])


if __name__ == "__main__":
    unittest.main()
