import unittest

from drawing import GREATEST, ask, box, draw, look, over, page


class PageTest(unittest.TestCase):
    def test_at_the_beginning_it_is_1_by_1_with_nothing_chosen(self):
        self.assertEqual(ask(box(0, 0, 1, 1, 3)), [0])
        self.assertEqual(ask(over()), [1])
        self.assertEqual(ask(box(0, 0, GREATEST, GREATEST, 0)), [1])
        self.assertEqual(ask(box(1, 0, 1, 1, 0)), [0])
        self.assertEqual(ask(box(0, 1, 1, 1, 0)), [0])

    def test_every_size_from_1_to_16(self):
        for w in range(1, 17):
            for h in range(1, 17):
                with self.subTest(w=w, h=h):
                    self.assertEqual(ask(page(w, h), over()), [0, w * h])

    def test_columns_and_rows_are_not_exchanged(self):
        for w, h in ((1, 16), (16, 1), (3, 2)):
            with self.subTest(w=w, h=h):
                self.assertEqual(
                    ask(page(w, h), box(0, 0, GREATEST, 1, 0), box(0, 0, 1, GREATEST, 0)), [0, w, h])
                self.assertEqual(ask(page(w, h), box(w - 1, h - 1, 1, 1, 0)), [0, 1])
                self.assertEqual(ask(page(w, h), box(w, 0, 1, GREATEST, 0), box(0, h, GREATEST, 1, 0)), [0, 0, 0])

    def test_refused_sizes(self):
        for wrong in (0, 17, GREATEST):
            for right in (1, 16):
                for w, h in ((wrong, right), (right, wrong), (wrong, wrong)):
                    with self.subTest(w=w, h=h):
                        self.assertEqual(ask(page(w, h)), [-1])

    def test_after_a_new_page_nothing_is_chosen(self):
        self.assertEqual(ask(page(3, 3), over(), page(3, 3), box(0, 0, 3, 3, 3)), [0, 9, 0, 0])
        self.assertEqual(ask(page(3, 3), over(), page(4, 2), over()), [0, 9, 0, 8])
        self.assertEqual(ask(over(), page(1, 1), over()), [1, 0, 1])

    def test_a_refusal_leaves_page_and_choice(self):
        picture = """
            ##.
            ..#
        """
        for w, h in ((0, 5), (5, 0), (17, 2), (3, 17), (GREATEST, 1), (1, GREATEST), (0, 0)):
            with self.subTest(w=w, h=h):
                self.assertEqual(look(3, 2, *draw(picture), page(w, h)), ["##.", "..#"])
                self.assertEqual(ask(*draw(picture), page(w, h), over(), box(0, 0, 16, 16, 0))[-3:], [-1, 3, 6])

    def test_a_refusal_before_any_page(self):
        self.assertEqual(ask(page(0, 0), over()), [-1, 1])
        self.assertEqual(ask(over(), page(17, 17), over()), [1, -1, 0])


if __name__ == "__main__":
    unittest.main()
