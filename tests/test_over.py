import unittest

from drawing import ask, changed, over, page

PICTURE = """
    #..
    .##
"""


class OverTest(unittest.TestCase):
    def test_chosen_is_what_was_not(self):
        self.assertEqual(changed(PICTURE, over()), [".##", "#.."])

    def test_twice_is_as_before(self):
        self.assertEqual(changed(PICTURE, over(), over()), ["#..", ".##"])

    def test_nothing_and_all(self):
        self.assertEqual(ask(page(5, 3), over(), over(), over()), [0, 15, 0, 15])
        self.assertEqual(ask(page(16, 16), over(), over()), [0, 256, 0])


if __name__ == "__main__":
    unittest.main()
