import unittest

from drawing import box, changed, checkered, draw, last, over, page, runs, told


class RunsTest(unittest.TestCase):
    def check(self, picture, answer):
        self.assertEqual(last(*draw(picture), runs()), answer)

    def test_row_first_column_last_column(self):
        self.check("..... .###. .....", [1, 1, 1, 3])
        self.check("..... ..... ..#..", [1, 2, 2, 2])

    def test_several_in_a_row(self):
        self.check("#.##.#", [3, 0, 0, 0, 0, 2, 3, 0, 5, 5])

    def test_in_order_row_by_row(self):
        self.check("..##. #...# .....  .#...", [4, 0, 2, 3, 1, 0, 0, 1, 4, 4, 3, 1, 1])

    def test_a_run_that_ends_at_the_last_column(self):
        self.check("...## ..... .....", [1, 0, 3, 4])
        self.check("..... ..... ....#", [1, 2, 4, 4])
        self.check("##### ..... .....", [1, 0, 0, 4])

    def test_a_run_does_not_go_on_in_the_next_row(self):
        self.check("...## ##... .....", [2, 0, 3, 4, 1, 0, 1])
        self.check("..... ....# #....", [2, 1, 4, 4, 2, 0, 0])
        self.check("### ### ###", [3, 0, 0, 2, 1, 0, 2, 2, 0, 2])

    def test_a_column_is_a_run_for_each_row(self):
        self.check("#. #. #.", [3, 0, 0, 0, 1, 0, 0, 2, 0, 0])
        self.assertEqual(
            last(page(1, 16), over(), runs()), [16] + [number for y in range(16) for number in (y, 0, 0)])

    def test_nothing_chosen(self):
        self.assertEqual(told(runs()), [[0]])
        self.assertEqual(last(page(16, 16), runs()), [0])

    def test_all_chosen(self):
        self.assertEqual(told(over(), runs()), [[1], [1, 0, 0, 0]])
        self.assertEqual(last(page(16, 1), over(), runs()), [1, 0, 0, 15])
        self.assertEqual(
            last(page(16, 16), over(), runs()), [16] + [number for y in range(16) for number in (y, 0, 15)])

    def test_as_many_as_there_may_be(self):
        expected = [(y, x, x) for y in range(16) for x in range(16) if (x + y) % 2]
        self.assertEqual(
            last(*checkered(16, 16), runs()), [128] + [number for run in expected for number in run])

    def test_boxes_side_by_side_are_one_run(self):
        self.assertEqual(
            last(page(9, 1), box(4, 0, 2, 1, 1), box(2, 0, 2, 1, 1), box(6, 0, 1, 1, 1), runs()), [1, 0, 2, 6])

    def test_all_is_as_it_was(self):
        picture = "#.##. .#..# ....."
        self.assertEqual(changed(picture, runs()), picture.split())
        self.assertEqual(told(*draw(picture), runs(), runs())[-2:], [[4, 0, 0, 0, 0, 2, 3, 1, 1, 1, 1, 4, 4]] * 2)


if __name__ == "__main__":
    unittest.main()
