import unittest

from drawing import box, changed, checkered, draw, last, over, page, pieces, told


class PiecesTest(unittest.TestCase):
    def check(self, picture, answer):
        self.assertEqual(last(*draw(picture), pieces()), answer)

    def test_column_and_row_of_the_first_cell_and_how_many(self):
        self.check("..... ...#. ..##. .....", [1, 3, 1, 3])

    def test_the_first_cell_is_the_first_in_its_first_row(self):
        # Neither the least column nor where a walk would end.
        self.check("....# ....# #####", [1, 4, 0, 7])
        self.check("#...# #...# #####", [1, 0, 0, 9])
        self.check(".#.#. #####", [1, 1, 0, 7])

    def test_in_the_order_of_their_first_cells(self):
        self.check("..#.. #.... #...# ..##.", [4, 2, 0, 1, 0, 1, 2, 4, 2, 1, 2, 3, 2])
        self.check("...## ##... .....", [2, 3, 0, 2, 0, 1, 2])
        # The greatest comes last, and a piece that ends first begins last.
        self.check("#...# ..#.# .#### .....", [2, 0, 0, 1, 4, 0, 7])
        self.check("#.#.. #.... #....", [2, 0, 0, 3, 2, 0, 1])

    def test_a_corner_in_common_is_not_enough(self):
        self.check("#.. .#. ..#", [3, 0, 0, 1, 1, 1, 1, 2, 2, 1])
        self.check("..# .#. #..", [3, 2, 0, 1, 1, 1, 1, 0, 2, 1])
        self.check("##.. ##.. ..## ..##", [2, 0, 0, 4, 2, 2, 4])

    def test_no_way_around_the_page_s_edge(self):
        self.check("#.# ... ...", [2, 0, 0, 1, 2, 0, 1])
        self.check("#.. ... #..", [2, 0, 0, 1, 0, 2, 1])
        self.check("..# #.. ...", [2, 2, 0, 1, 0, 1, 1])

    def test_a_winding_piece(self):
        self.check("##### ....# ##### #.... #####", [1, 0, 0, 17])
        self.check("#.### #.#.# #.#.# ###.#", [1, 0, 0, 14])

    def test_a_piece_within_another(self):
        self.check("##### #...# #.#.# #...# #####", [2, 0, 0, 16, 2, 2, 1])

    def test_nothing_and_all(self):
        self.assertEqual(told(pieces()), [[0]])
        self.assertEqual(last(page(16, 16), pieces()), [0])
        self.assertEqual(told(over(), pieces()), [[1], [1, 0, 0, 1]])
        self.assertEqual(last(page(16, 16), over(), pieces()), [1, 0, 0, 256])

    def test_as_many_as_there_may_be(self):
        expected = [(x, y, 1) for y in range(16) for x in range(16) if (x + y) % 2]
        self.assertEqual(
            last(*checkered(16, 16), pieces()), [128] + [number for piece in expected for number in piece])

    def test_the_longest_way(self):
        # One way to and fro over all rows: every other row, joined at its end and at its beginning by turns.
        bars = [box(0, y, 16, 1, 1) for y in range(0, 16, 2)]
        joints = [box(15 if y % 4 == 1 else 0, y, 1, 1, 1) for y in range(1, 15, 2)]
        self.assertEqual(last(page(16, 16), *bars, *joints, pieces()), [1, 0, 0, 135])

    def test_all_is_as_it_was(self):
        picture = "##.#. ...#. #...#"
        self.assertEqual(changed(picture, pieces()), picture.split())


if __name__ == "__main__":
    unittest.main()
