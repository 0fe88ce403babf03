import unittest

from drawing import GREATEST, ask, box, changed, disk, grow, over, page

DOT = """
    .......
    .......
    .......
    ...#...
    .......
    .......
    .......
"""


class GrowTest(unittest.TestCase):
    def test_r_0_changes_nothing(self):
        self.assertEqual(changed("#.# ..#", grow(0)), ["#.#", "..#"])

    def test_r_1(self):
        self.assertEqual(changed(DOT, grow(1)), [
            ".......", ".......", "...#...", "..###..", "...#...", ".......", "......."])

    def test_r_2(self):
        self.assertEqual(changed(DOT, grow(2)), [
            ".......", ".......", "..###..", "..###..", "..###..", ".......", "......."])

    def test_r_3_reaches_no_further_than_2(self):
        self.assertEqual(changed(DOT, grow(3)), changed(DOT, grow(2)))

    def test_r_4(self):
        self.assertEqual(changed(DOT, grow(4)), [
            ".......", "...#...", "..###..", ".#####.", "..###..", "...#...", "......."])

    def test_r_5(self):
        self.assertEqual(changed(DOT, grow(5)), [
            ".......", "..###..", ".#####.", ".#####.", ".#####.", "..###..", "......."])

    def test_from_several_cells_and_not_around_the_edge(self):
        self.assertEqual(changed("#.... ..... ....#", grow(1)), ["##...", "#...#", "...##"])
        self.assertEqual(changed("....# ..... .....", grow(2)), ["...##", "...##", "....."])

    def test_great_r(self):
        self.assertEqual(changed("#.. ...", grow(GREATEST)), ["###", "###"])
        self.assertEqual(ask(page(16, 16), box(0, 0, 1, 1, 0), grow(449)), [0, 1, 255])
        self.assertEqual(ask(page(16, 16), box(0, 0, 1, 1, 0), grow(450)), [0, 1, 256])
        self.assertEqual(ask(page(16, 16), box(0, 0, 1, 1, 0), grow(GREATEST)), [0, 1, 256])

    def test_nothing_and_all(self):
        for r in (0, 1, 2, 4, 5, GREATEST):
            with self.subTest(r=r):
                self.assertEqual(ask(page(7, 5), grow(r)), [0, 0])
                self.assertEqual(ask(page(7, 5), over(), grow(r)), [0, 35, 35])

    def test_one_cell_grown_is_a_disk(self):
        for r in range(30):
            with self.subTest(r=r):
                self.assertEqual(
                    ask(page(9, 8), disk(2, 3, 0, 0), grow(r), disk(2, 3, r, 4))[-1], 0)


if __name__ == "__main__":
    unittest.main()
