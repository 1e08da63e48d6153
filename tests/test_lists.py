"""Whole lists of calls, and what the document asks for them, written out number by number."""

import unittest

from panelsessions.record import answers


class Lists(unittest.TestCase):
    def test_one_square_alone(self):
        calls = [1, 6, 80, 76, 80, 49, 1, 1, 10, 9, 8, 7]
        told = [1, 0, 7, 0, 1, 1, 0, 1, 0, 0, 3, 2, 111, 10, 7, 6, 80, 76, 80, 49, 1, 1, 1, -5]
        self.assertEqual(answers(calls), told)

    def test_counts_and_drawing_of_a_panel_3_wide(self):
        calls = [1, 13, 80, 76, 80, 49, 3, 2, 0, 1, 2, 0, 1, 0, 2, 10, 9]
        told = [1, 0, 7, 0, 3, 2, 3, 1, 0, 0, 19, 18, 111, 120, 111, 124, 111, 10, 45, 32, 120, 32, 124, 10, 111, 45,
                111, 120, 111, 10]
        self.assertEqual(answers(calls), told)

    def test_a_panel_turned(self):
        calls = [1, 13, 80, 76, 80, 49, 3, 2, 0, 1, 2, 0, 1, 0, 2, 5, 1, 8, 9, 10]
        told = [1, 0, 13, 0, 1, 0, 1, 0, 0, 0, 0, 0, 78, 94, 196, 107, 14, 13, 80, 76, 80, 49, 2, 3, 1, 0, 2, 2, 0, 0,
                1, 21, 20, 111, 124, 111, 10, 124, 32, 120, 10, 111, 120, 111, 10, 120, 32, 45, 10, 111, 45, 111, 10,
                7, 0, 2, 3, 3, 1, 1, 0]
        self.assertEqual(answers(calls), told)

    def test_save_head_and_redo_behind_it(self):
        calls = [1, 7, 80, 76, 80, 49, 2, 1, 2, 4, 0, 1, 6, 11, 12, 7, 7]
        told = [1, 0, 13, 0, 0, 0, 0, 0, 1, 0, 0, 0, 166, 176, 184, 203, 13, 0, 2, 0, 0, 0, 0, 0, 0, 0, 24, 57, 11, 45,
                36, 35, 80, 76, 83, 49, 7, 0, 0, 0, 80, 76, 80, 49, 2, 1, 2, 0, 0, 0, 0, 1, 0, 0, 0, 0, 0, 0, 0, 1, 0,
                0, 0, 43, 0, 163, 130, 44, 43, 80, 76, 74, 49, 35, 0, 0, 0, 80, 76, 83, 49, 7, 0, 0, 0, 80, 76, 80, 49,
                2, 1, 2, 0, 0, 0, 0, 1, 0, 0, 0, 0, 0, 0, 0, 1, 0, 0, 0, 43, 0, 163, 130, 13, 0, 3, 0, 0, 0, 0, 0, 0,
                0, 147, 32, 197, 157, 1, -5]
        self.assertEqual(answers(calls), told)


if __name__ == "__main__":
    unittest.main()
