import os
import subprocess
import sys
import unittest

from drawing import (
    GREATEST, ask, box, counts, disk, far, fill, grow, holes, keep, line, over, page, pieces, ring, runs, shrink, soft,
    told)
from softedges.pages import answers

ALL_SORTS = [
    page(7, 6), box(1, 1, 4, 4, 0), box(2, 2, 1, 1, 2), fill(), disk(5, 5, 2, 4), over(), grow(1), ring(2),
    shrink(0, 1), shrink(1, 1), over(), page(17, 1), box(0, 0, 1, 1, 5), disk(0, 0, 1, 5), shrink(2, 0), over(),
    far(0, 0), far(7, 0), keep(0, 0), box(1, 1, 4, 4, 0), box(2, 2, 1, 1, 2), box(6, 5, 1, 1, 1), far(5, 3), soft(3),
    soft(0), soft(65), runs(), counts(), pieces(), holes(), keep(6, 5), keep(0, 6), counts(), runs(), holes(), over(),
]

ROOT = os.path.dirname(os.path.dirname(os.path.abspath(__file__)))


class AnswersTest(unittest.TestCase):
    def test_how_many_numbers_and_then_these(self):
        self.assertEqual(answers([0, 5, 4]), [1, 0])
        self.assertEqual(answers([0, 0, 4]), [1, -1])
        self.assertEqual(answers([3]), [1, 1])

    def test_several_calls_in_one_list(self):
        self.assertEqual(
            answers([0, 5, 5, 1, 1, 1, 3, 3, 0, 2, 2, 2, 0, 2, 7, 4, 1, 5, 1, 1, 6, 1, 3]),
            [1, 0, 1, 9, 1, 8, 1, 9, 1, 21, 1, 9, 1, 12, 1, 13])

    def test_refusals_among_other_calls(self):
        self.assertEqual(
            answers([0, 3, 3, 3, 0, 17, 1, 1, 0, 0, 1, 1, 5, 2, 0, 0, 1, 5, 5, 2, 1, 7, 3, 3]),
            [1, 0, 1, 9, 1, -1, 1, -2, 1, -2, 1, -2, 1, 9, 1, 0, 1, 9])

    def test_the_calls_that_answer_more_than_one_number(self):
        self.assertEqual(
            answers([0, 4, 3, 1, 0, 0, 3, 3, 0, 2, 1, 1, 0, 2, 9, 3, 1, 10, 1, 11, 12, 13, 14, 8, 2, 0]),
            [1, 0, 1, 9, 1, 8, 3, 1, 2, 1, 12, 255, 255, 255, 0, 255, 0, 255, 0, 255, 255, 255, 0,
             13, 4, 0, 0, 2, 1, 0, 0, 1, 2, 2, 2, 0, 2, 8, 8, 0, 2, 0, 2, 16, 1, 1, 4, 1, 0, 0, 8, 4, 1, 1, 1, 1, 1, 8])
        self.assertEqual(answers([9, 0, 0]), [1, -3])
        self.assertEqual(answers([10, 1, 11, 12, 13, 14]), [1, 0, 1, 0, 4, 0, 0, 0, 0, 1, 0, 1, 0])

    def test_more_refusals_among_other_calls(self):
        self.assertEqual(
            answers([8, 0, 0, 9, 0, 0, 9, 1, 0, 10, 0, 10, 65, 3, 8, 1, 0, 9, 0, 1, 10, 64, 8, 0, 0]),
            [1, -3, 1, -3, 1, -1, 1, -1, 1, -1, 1, 1, 1, -3, 1, -1, 1, 255, 1, 1])

    def test_both_stages_together(self):
        found = told(*ALL_SORTS)
        self.assertEqual(len(found), 36)
        self.assertEqual(found[16:23], [[-3], [-1], [-3], [16], [15], [16], [1, 4, 3]])
        self.assertEqual(len(found[23]), 42)
        self.assertEqual(found[24:26], [[-1], [-1]])
        self.assertEqual(found[26], [6, 1, 1, 4, 2, 1, 1, 2, 3, 4, 3, 1, 4, 4, 1, 4, 5, 6, 6])
        self.assertEqual(found[27:30], [[16, 1, 6, 1, 5, 24, 2, 1], [2, 1, 1, 15, 6, 5, 1], [1, 2, 2, 1]])
        self.assertEqual(found[30:], [[1], [-3], [1, 6, 6, 5, 5, 4, 1, 0], [1, 5, 6, 6], [0], [41]])

    def test_40_calls_that_answer_most(self):
        given = answers([0, 16, 16, 3] + [10, 64] * 38)
        self.assertEqual(given, [1, 0, 1, 256] + ([256] + [255] * 256) * 38)

    def test_40_calls(self):
        self.assertEqual(ask(page(16, 16), *[over()] * 39), [0] + [256, 0] * 19 + [256])
        self.assertEqual(
            ask(page(16, 16), *[box(x % 16, 0, 1, 16, 4) for x in range(39)]),
            [0] + [16 * (x + 1) for x in range(16)] + [16 * (15 - x) for x in range(16)] + [16 * x for x in range(1, 8)])

    def test_whole_numbers_in_a_list(self):
        given = answers(line(ALL_SORTS))
        self.assertIs(type(given), list)
        self.assertEqual({type(number) for number in given}, {int})

    def test_what_is_handed_in_is_the_same_afterwards(self):
        calls = line(ALL_SORTS)
        before = list(calls)
        answers(calls)
        self.assertEqual(calls, before)

    def test_what_is_handed_in_is_not_changed_for_a_while_either(self):
        class Kept(list):
            def refuse(self, *args):
                raise AssertionError("the list was changed")
            __setitem__ = __delitem__ = __iadd__ = __imul__ = refuse
            append = clear = extend = insert = pop = remove = reverse = sort = refuse
        calls = line(ALL_SORTS)
        self.assertEqual(answers(Kept(calls)), answers(calls))

    def test_the_same_list_twice(self):
        calls = line(ALL_SORTS)
        self.assertEqual(answers(calls), answers(calls))

    def test_nothing_is_kept_from_one_time_to_the_next(self):
        self.assertEqual(answers([3]), [1, 1])
        self.assertEqual(answers([0, 9, 9, 3]), [1, 0, 1, 81])
        self.assertEqual(answers([3]), [1, 1])
        self.assertEqual(answers([1, 0, 0, 9, 9, 3]), [1, 0])
        self.assertEqual(answers([9, 0, 0, 13]), [1, -3, 1, 0])
        self.assertEqual(answers([12]), [4, 0, 0, 0, 0])

    def test_an_answer_is_not_changed_by_a_later_one(self):
        first = answers([0, 9, 9, 3])
        kept = list(first)
        answers([3, 3])
        self.assertEqual(first, kept)

    def test_nothing_is_printed(self):
        program = "from softedges.pages import answers\nanswers(%r)\n" % (line(ALL_SORTS),)
        done = subprocess.run(
            [sys.executable, "-c", program], cwd=ROOT, capture_output=True, stdin=subprocess.DEVNULL, timeout=60)
        self.assertEqual((done.returncode, done.stdout, done.stderr), (0, b"", b""))

    def test_great_numbers_are_answered_at_once(self):
        g = GREATEST
        calls = [page(g, g), page(16, 16), box(0, 0, g, g, 0), box(g, g, g, g, 1), box(1, 1, g, g, 2)]
        calls += [disk(g, g, g, 1), disk(0, 0, g, 4), grow(g), over(), box(3, 3, 1, 1, 0), ring(g), shrink(0, g)]
        calls += [over(), shrink(0, g), shrink(1, g), box(g, g, g, g, g), disk(g, g, g, g), shrink(g, g), fill()]
        calls += [keep(g, g), far(g, g), soft(g), over()]
        expected = [-1, 0, 256, 256, 31, 31, 225, 256, 0, 1, 255, 0, 256, 256, 0, -2, -2, -2, 0, -3, -1, -1, 256]
        # In a process of its own, so that a program that counts up to such a number is stopped and told.
        program = "from softedges.pages import answers\nprint(answers(%r)[1::2])\n" % (line(calls),)
        done = subprocess.run([sys.executable, "-c", program], cwd=ROOT, capture_output=True, text=True, timeout=20)
        self.assertEqual((done.stdout, done.stderr), ("%r\n" % expected, ""))


if __name__ == "__main__":
    unittest.main()
