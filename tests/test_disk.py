import unittest

from drawing import GREATEST, ask, box, changed, disk, look, over, page

LEFT = """
    ###..
    ###..
    ###..
"""


class DiskTest(unittest.TestCase):
    def test_how_0_it_alone(self):
        self.assertEqual(changed(LEFT, disk(3, 1, 1, 0)), ["...#.", "..###", "...#."])

    def test_how_1_it_too(self):
        self.assertEqual(changed(LEFT, disk(3, 1, 1, 1)), ["####.", "#####", "####."])

    def test_how_2_it_not_any_more(self):
        self.assertEqual(changed(LEFT, disk(3, 1, 1, 2)), ["###..", "##...", "###.."])

    def test_how_3_only_what_is_in_both(self):
        self.assertEqual(changed(LEFT, disk(3, 1, 1, 3)), [".....", "..#..", "....."])

    def test_how_4_what_is_in_just_one(self):
        self.assertEqual(changed(LEFT, disk(3, 1, 1, 4)), ["####.", "##.##", "####."])

    def test_the_answer_is_how_many_are_chosen_then(self):
        for how, count in enumerate((5, 13, 8, 1, 12)):
            with self.subTest(how=how):
                self.assertEqual(ask(page(5, 3), box(0, 0, 3, 3, 0), disk(3, 1, 1, how)), [0, 9, count])

    def test_refused_how_leaves_all_as_it_was(self):
        for how in (5, 6, 255, 256, GREATEST):
            with self.subTest(how=how):
                self.assertEqual(ask(page(5, 3), disk(3, 1, 1, how)), [0, -2])
                self.assertEqual(changed(LEFT, disk(3, 1, 1, how)), ["###..", "###..", "###.."])
                self.assertEqual(ask(page(5, 3), disk(9, 9, 0, how), over()), [0, -2, 15])

    def test_r_0_is_the_middle_alone(self):
        self.assertEqual(look(5, 3, page(5, 3), disk(3, 1, 0, 0)), [".....", "...#.", "....."])
        self.assertEqual(ask(page(5, 3), disk(5, 1, 0, 0), disk(1, 3, 0, 0)), [0, 0, 0])

    def test_r_just_reaches_or_just_does_not(self):
        counts = {0: 1, 1: 5, 2: 9, 3: 9, 4: 13, 5: 21, 7: 21, 8: 25, 9: 29, 10: 37, 12: 37, 13: 45}
        for r, count in counts.items():
            with self.subTest(r=r):
                self.assertEqual(ask(page(16, 16), disk(7, 7, r, 0)), [0, count])

    def test_r_is_told_squared(self):
        self.assertEqual(ask(page(9, 9), disk(0, 0, 24, 0), box(3, 4, 1, 1, 3)), [0, 22, 0])
        self.assertEqual(ask(page(9, 9), disk(0, 0, 25, 0), box(3, 4, 1, 1, 3)), [0, 26, 1])
        self.assertEqual(ask(page(16, 16), disk(0, 0, 449, 0)), [0, 255])
        self.assertEqual(ask(page(16, 16), disk(0, 0, 450, 0)), [0, 256])

    def test_the_middle_outside_of_the_page(self):
        self.assertEqual(look(5, 3, page(5, 3), disk(6, 1, 4, 0)), [".....", "....#", "....."])
        self.assertEqual(look(5, 3, page(5, 3), disk(6, 1, 5, 0)), ["....#", "....#", "....#"])
        self.assertEqual(look(5, 3, page(5, 3), disk(2, 4, 4, 0)), [".....", ".....", "..#.."])
        self.assertEqual(ask(page(5, 3), disk(5, 3, 1, 0), disk(5, 3, 2, 0)), [0, 0, 1])

    def test_great_numbers(self):
        self.assertEqual(ask(page(5, 3), disk(1, 1, GREATEST, 0)), [0, 15])
        self.assertEqual(ask(page(5, 3), disk(GREATEST, GREATEST, GREATEST, 0)), [0, 0])
        self.assertEqual(ask(page(5, 3), disk(GREATEST, 0, GREATEST, 0), disk(0, GREATEST, GREATEST, 0)), [0, 0, 0])
        # 65535 squared is 4294836225, so just this far a disk reaches.
        self.assertEqual(ask(page(1, 1), disk(65535, 0, 4294836225, 0), disk(65535, 0, 4294836224, 0)), [0, 1, 0])
        self.assertEqual(ask(page(1, 1), disk(65536, 0, GREATEST, 0), disk(0, 65535, GREATEST, 0)), [0, 0, 1])


if __name__ == "__main__":
    unittest.main()
