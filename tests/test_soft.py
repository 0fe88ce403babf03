import unittest

from drawing import GREATEST, box, changed, checkered, counts, disk, draw, last, over, page, rows_of, runs, soft, told

BLOB = """
    .......
    ..##...
    .####..
    .##.#..
    ......#
"""


def degrees(picture, k):
    """The degrees, row by row."""
    columns = len(rows_of(picture)[0])
    given = last(*draw(picture), soft(k))
    return [given[place:place + columns] for place in range(0, len(given), columns)]


class SoftTest(unittest.TestCase):
    def test_a_half_in_a_row(self):
        # d is 1, 4, 9, 16 away from the edge; with k 4 s is 32, 64, 96, 128.
        self.assertEqual(degrees("....####", 4), [[0, 32, 64, 96, 159, 191, 223, 255]])
        self.assertEqual(degrees("####....", 4), [[255, 223, 191, 159, 96, 64, 32, 0]])
        self.assertEqual(degrees("....####", 2), [[0, 0, 0, 64, 191, 255, 255, 255]])
        self.assertEqual(degrees("....####", 8), [[64, 80, 96, 112, 143, 159, 175, 191]])

    def test_the_root_is_rounded_down(self):
        # 16384 d / 9 for d 1, 4, 9: 1820 (42 42 is 1764), 7281 (85 85 is 7225), 16384.
        self.assertEqual(degrees("......#", 3), [[0, 0, 0, 0, 43, 86, 169]])
        self.assertEqual(degrees("######.", 3), [[255, 255, 255, 255, 212, 169, 86]])
        # 16384 d / 49 for d 1, 4, 9, 16, 25, 36: roots of 334, 1337, 3009, 5349, 8359, 12037.
        self.assertEqual(degrees("......#", 7), [[19, 37, 55, 74, 92, 110, 145]])

    def test_the_nearest_may_be_askew(self):
        # With k 2, d 1, 2, 4, 5: roots of 4096, 8192, 16384, 20480 are 64, 90, 128, 143.
        self.assertEqual(degrees("..... ..... ..#.. ..... .....", 2), [
            [0, 0, 0, 0, 0],
            [0, 38, 64, 38, 0],
            [0, 64, 191, 64, 0],
            [0, 38, 64, 38, 0],
            [0, 0, 0, 0, 0]])
        # With k 3: roots of 1820, 3640, 7281, 9102, 14563 are 42, 60, 85, 95, 120.
        self.assertEqual(degrees("##### ##### ##.## ##### #####", 3), [
            [247, 222, 212, 222, 247],
            [222, 187, 169, 187, 222],
            [212, 169, 86, 169, 212],
            [222, 187, 169, 187, 222],
            [247, 222, 212, 222, 247]])

    def test_k_1(self):
        self.assertEqual(degrees("..#. ###. ....", 1), [[0, 0, 255, 0], [255, 255, 255, 0], [0, 0, 0, 0]])
        self.assertEqual(last(page(16, 16), box(0, 0, 1, 1, 0), soft(1)), [255] + [0] * 255)
        self.assertEqual(last(page(16, 16), over(), box(0, 0, 1, 1, 2), soft(1)), [0] + [255] * 255)

    def test_k_64(self):
        # 16384 / 4096 is 4, so s is the root of 4 d.
        self.assertEqual(degrees(".......#........", 64), [
            [114, 116, 118, 120, 122, 124, 126, 129, 126, 124, 122, 120, 118, 116, 114, 112]])
        self.assertEqual(degrees("#### #### ####  ###.", 64), [
            [135, 134, 133, 133], [134, 132, 131, 131], [133, 131, 129, 129], [133, 131, 129, 126]])
        given = last(page(16, 16), box(15, 15, 1, 1, 0), soft(64))
        self.assertEqual((given[0], given[15], given[240], given[254], given[255]), (86, 98, 98, 126, 129))

    def test_k_63_and_k_2(self):
        self.assertEqual(degrees("#.", 63), [[129, 126]])
        self.assertEqual(degrees("#...", 63), [[129, 126, 124, 122]])
        self.assertEqual(degrees("#.", 2), [[191, 64]])

    def test_s_at_just_128(self):
        # With k 16 only d 256 would make s 128, and the page ends at 225, where it's 120; with k 15 it's 128 there.
        self.assertEqual(degrees("#...............", 16)[0][-3:], [24, 16, 8])
        self.assertEqual(degrees("#...............", 15)[0][-3:], [18, 9, 0])
        self.assertEqual(degrees("###############.", 15)[0][:3], [255, 246, 237])

    def test_wholly_chosen(self):
        for k in (1, 2, 63, 64):
            with self.subTest(k=k):
                self.assertEqual(last(page(16, 16), over(), soft(k)), [255] * 256)
                self.assertEqual(last(page(5, 3), over(), soft(k)), [255] * 15)
                self.assertEqual(last(over(), soft(k)), [255])

    def test_nothing_chosen(self):
        for k in (1, 2, 63, 64):
            with self.subTest(k=k):
                self.assertEqual(last(page(16, 16), soft(k)), [0] * 256)
                self.assertEqual(last(page(5, 3), soft(k)), [0] * 15)
                self.assertEqual(last(soft(k)), [0])

    def test_what_is_outside_of_the_page_does_not_count(self):
        self.assertEqual(degrees("##.", 64), [[131, 129, 126]])
        self.assertEqual(degrees("..#", 64), [[124, 126, 129]])

    def test_one_number_for_each_cell_row_by_row(self):
        for w, h in ((1, 1), (16, 1), (1, 16), (7, 3), (16, 16)):
            with self.subTest(w=w, h=h):
                self.assertEqual(len(last(page(w, h), box(0, 0, 1, 1, 0), soft(9))), w * h)
        self.assertEqual(last(page(3, 2), box(0, 1, 1, 1, 0), soft(1)), [0, 0, 0, 255, 0, 0])
        self.assertEqual(last(page(3, 2), box(1, 0, 1, 1, 0), soft(1)), [0, 255, 0, 0, 0, 0])

    def test_a_checkered_page(self):
        self.assertEqual(last(*checkered(16, 16), soft(2)), ([64, 191] * 8 + [191, 64] * 8) * 8)

    def test_it_turns_over_with_what_is_chosen(self):
        for k in range(1, 65):
            with self.subTest(k=k):
                turned = last(*draw(BLOB), over(), soft(k))
                self.assertEqual(last(*draw(BLOB), soft(k)), [255 - degree for degree in turned])

    def test_chosen_cells_have_more_than_127(self):
        for k in range(1, 65):
            with self.subTest(k=k):
                given = last(*draw(BLOB), soft(k))
                self.assertEqual([degree > 127 for degree in given], [sign == "#" for sign in "".join(BLOB.split())])

    def test_refused_widths(self):
        for k in (0, 65, 66, 256, GREATEST):
            with self.subTest(k=k):
                self.assertEqual(told(soft(k)), [[-1]])
                self.assertEqual(last(page(5, 3), over(), soft(k)), [-1])
                self.assertEqual(last(*draw(BLOB), soft(k)), [-1])

    def test_all_is_as_it_was(self):
        for k in (0, 1, 7, 64, 65, GREATEST):
            with self.subTest(k=k):
                self.assertEqual(changed(BLOB, soft(k)), BLOB.split())
                for call in (counts(), runs(), over(), soft(3), disk(1, 1, 2, 4)):
                    self.assertEqual(last(*draw(BLOB), soft(k), call), last(*draw(BLOB), call))


if __name__ == "__main__":
    unittest.main()
