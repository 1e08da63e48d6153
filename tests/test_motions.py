import unittest

from tests import desk


class Motions(unittest.TestCase):
    def panel_behind(self, first, *calls):
        return desk.held(desk.begin(first), *calls)[1]

    def test_a_row_by_hand(self):
        # Three squares in a row, a break along at the left place, a break across at the right one.
        row, column = desk.panel(3, 1, [1, 2]), desk.panel(1, 3, [1, 2])
        other_row, other_column = desk.panel(3, 1, [2, 1]), desk.panel(1, 3, [2, 1])
        told = [row, column, other_row, other_column, other_row, other_column, row, column]
        for motion in range(8):
            self.assertEqual(self.panel_behind(row, desk.move(motion)), told[motion])

    def test_a_quarter_turn_by_hand(self):
        # Upright places 0 and 1 of two rows, level places 2 and 3: upper, lower; left, right.
        first = desk.panel(2, 2, [1, 0, 2, 0])
        self.assertEqual(self.panel_behind(first, desk.move(1)), desk.panel(2, 2, [2, 0, 0, 1]))
        self.assertEqual(self.panel_behind(first, desk.move(4)), desk.panel(2, 2, [1, 0, 0, 2]))
        self.assertEqual(self.panel_behind(first, desk.move(5)), desk.panel(2, 2, [0, 2, 0, 1]))

    def test_every_motion_of_every_size(self):
        for wide in range(1, 9):
            for high in range(1, 9):
                signs = [k * k % 7 % 3 for k in range(len(desk.places(wide, high)))]
                first = desk.panel(wide, high, signs)
                for motion in range(8):
                    self.assertEqual(self.panel_behind(first, desk.move(motion)), desk.moved(first, motion))

    def test_places_are_set_as_numbered_behind_the_motion(self):
        for wide, high in ((3, 2), (2, 3), (4, 1), (1, 4), (3, 3)):
            first = desk.panel(wide, high)
            for motion in range(8):
                for place in range(len(first) - 6):
                    told = desk.moved(first, motion)
                    told[6 + place] = (told[6 + place] + 1) % 3
                    calls = [desk.move(motion), desk.set_at(place, told[6 + place])]
                    self.assertEqual(self.panel_behind(first, *calls), told)
                    back = desk.moved(told, 3)
                    self.assertEqual(self.panel_behind(first, *calls, desk.move(3)), back)

    def test_one_motion_behind_another(self):
        first = desk.panel(4, 3)
        for one in range(8):
            for other in range(8):
                told = desk.moved(desk.moved(first, one), other)
                self.assertEqual(self.panel_behind(first, desk.move(one), desk.move(other)), told)


if __name__ == "__main__":
    unittest.main()
