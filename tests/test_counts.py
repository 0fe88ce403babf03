import unittest

from drawing import changed, checkered, counts, draw, holes, keep, last, over, page, pieces, told


class CountsTest(unittest.TestCase):
    def check(self, picture, answer):
        self.assertEqual(last(*draw(picture), counts()), answer)

    def test_cells_bounds_sides_pieces_holes(self):
        self.check("...... .####. .#..#. .####. ......", [10, 1, 4, 1, 3, 20, 1, 1])

    def test_one_cell(self):
        self.check("..... ...#. .....", [1, 3, 3, 1, 1, 4, 1, 0])
        self.assertEqual(told(over(), counts()), [[1], [1, 0, 0, 0, 0, 4, 1, 0]])

    def test_nothing_chosen(self):
        self.assertEqual(told(counts()), [[0, 0, 0, 0]])
        for w, h in ((1, 1), (1, 16), (16, 1), (3, 3), (16, 16)):
            with self.subTest(w=w, h=h):
                self.assertEqual(last(page(w, h), counts()), [0, 0, 0, 0])
                self.assertEqual(last(page(w, h), over(), over(), counts()), [0, 0, 0, 0])

    def test_all_chosen_has_its_sides_at_the_page_s_edge(self):
        for w, h in ((1, 1), (1, 16), (16, 1), (5, 3), (16, 16)):
            with self.subTest(w=w, h=h):
                self.assertEqual(
                    last(page(w, h), over(), counts()), [w * h, 0, w - 1, 0, h - 1, 2 * w + 2 * h, 1, 0])

    def test_columns_before_rows(self):
        self.check("....... ....... .....#. ...#... .......", [2, 3, 5, 2, 3, 8, 2, 0])
        self.check("#...... ....... ....... ....... .......", [1, 0, 0, 0, 0, 4, 1, 0])
        self.check("....... ....... ....... ....... ......#", [1, 6, 6, 4, 4, 4, 1, 0])
        self.check("......# ....... ....... ....... #......", [2, 0, 6, 0, 4, 8, 2, 0])

    def test_sides_between_chosen_cells_do_not_count(self):
        self.check("##. ... ...", [2, 0, 1, 0, 0, 6, 1, 0])
        self.check("#.. #.. ...", [2, 0, 0, 0, 1, 6, 1, 0])
        self.check("##. #.. ...", [3, 0, 1, 0, 1, 8, 1, 0])
        self.check("##. ##. ...", [4, 0, 1, 0, 1, 8, 1, 0])
        self.check("... .## ##.", [4, 0, 2, 1, 2, 10, 1, 0])

    def test_sides_are_not_joined_around_the_page_s_edge(self):
        self.check("#.# ... ...", [2, 0, 2, 0, 0, 8, 2, 0])
        self.check("..# #.. ...", [2, 0, 2, 0, 1, 8, 2, 0])
        self.check("#.. ... #..", [2, 0, 0, 0, 2, 8, 2, 0])

    def test_the_sides_towards_a_hole_count(self):
        self.check("### #.# ###", [8, 0, 2, 0, 2, 16, 1, 1])
        self.check("#### #..# ####", [10, 0, 3, 0, 2, 20, 1, 1])

    def test_pieces_by_sides_and_holes_with_corners(self):
        self.check("#.. .#. ..#", [3, 0, 2, 0, 2, 12, 3, 0])
        self.check("..... ..#.. .#.#. ..#.. .....", [4, 1, 3, 1, 3, 16, 4, 0])
        self.check("##### #.### ##.## ##### #####", [23, 0, 4, 0, 4, 28, 1, 1])
        self.check("##### #.#.# ##### ##### #####", [23, 0, 4, 0, 4, 28, 1, 2])

    def test_a_checkered_page(self):
        self.assertEqual(last(*checkered(16, 16), counts()), [128, 0, 15, 0, 15, 512, 128, 0])
        self.assertEqual(last(*checkered(16, 16), over(), counts()), [128, 0, 15, 0, 15, 512, 128, 0])
        self.assertEqual(last(*checkered(3, 3), counts()), [4, 0, 2, 0, 2, 16, 4, 0])

    def test_it_agrees_with_pieces_and_holes(self):
        picture = "####### #.#.#.. ####### ....... #######"
        given = told(*draw(picture), counts(), pieces(), holes())[-3:]
        self.assertEqual(given[0], [24, 0, 6, 0, 4, 48, 2, 2])
        self.assertEqual((given[1][0], given[2][0]), (2, 2))

    def test_after_keep(self):
        picture = "###.. #.#.. ###.# ....."
        self.assertEqual(
            told(*draw(picture), counts(), keep(4, 2), counts())[-3:],
            [[9, 0, 4, 0, 2, 20, 2, 1], [1], [1, 4, 4, 2, 2, 4, 1, 0]])

    def test_all_is_as_it_was(self):
        picture = "###.. #.#.. ###.# ....."
        self.assertEqual(changed(picture, counts()), picture.split())
        self.assertEqual(changed("... ...", counts()), ["...", "..."])


if __name__ == "__main__":
    unittest.main()
