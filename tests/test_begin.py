import unittest

from tests import desk


class Begin(unittest.TestCase):
    def assert_refused(self, numbers, refusal):
        self.assertEqual(desk.ask(desk.begin(numbers), desk.undo()), [[refusal], [-8]])

    def test_right_panels_of_every_size(self):
        for wide in range(1, 9):
            for high in range(1, 9):
                first = desk.panel(wide, high)
                self.assertEqual(desk.ask(desk.begin(first)), [[0]])
                self.assertEqual(desk.held(desk.begin(first)), (desk.session(first), first))

    def test_the_greatest_panel_has_118_bytes(self):
        self.assertEqual(len(desk.panel(8, 8)), 118)

    def test_too_long_is_told_first(self):
        self.assert_refused([0] * 1025, -2)
        self.assert_refused([0] * 2000, -2)
        self.assert_refused(desk.panel(8, 8) + [0] * (1025 - 118), -2)

    def test_1024_bytes_are_not_too_long(self):
        self.assert_refused([0] * 1024, -6)
        self.assert_refused(desk.panel(8, 8) + [0] * (1024 - 118), -6)

    def test_fewer_than_six_bytes(self):
        for size in range(6):
            self.assert_refused(desk.panel(1, 1)[:size], -6)

    def test_another_mark(self):
        for at in range(4):
            for other in (0, 255, desk.panel(2, 2)[at] ^ 1):
                numbers = desk.panel(2, 2)
                numbers[at] = other
                self.assert_refused(numbers, -6)
        self.assert_refused(list(b"PLS1") + [1, 1], -6)

    def test_wide_and_high_are_1_to_8(self):
        for side in (0, 9, 10, 255):
            self.assert_refused(desk.panel(1, 1)[:4] + [side, 1], -6)
            self.assert_refused(desk.panel(1, 1)[:4] + [1, side], -6)
        self.assert_refused(desk.panel(9, 1), -6)
        self.assert_refused(desk.panel(1, 9), -6)
        self.assert_refused(desk.panel(9, 8), -6)
        self.assert_refused(desk.panel(8, 9), -6)
        # With no squares a row the count of places comes to less than none.
        self.assert_refused(desk.panel(1, 1)[:4] + [0, 0], -6)

    def test_another_length(self):
        for wide, high in ((1, 1), (2, 1), (1, 2), (3, 2), (8, 8)):
            numbers = desk.panel(wide, high)
            self.assert_refused(numbers + [0], -6)
            self.assert_refused(numbers[:-1], -6)

    def test_a_place_above_2(self):
        for at in range(7):
            for sign in (3, 4, 255):
                signs = [0] * 7
                signs[at] = sign
                self.assert_refused(desk.panel(2, 3, signs), -6)
                self.assert_refused(desk.panel(3, 2, signs), -6)

    def test_refused_the_session_before_stays(self):
        first = desk.panel(3, 2)
        calls = [desk.begin(first), desk.set_at(0, 2)]
        before = desk.held(*calls)
        for wrong in ([], [0] * 1025, desk.panel(9, 1)):
            self.assertEqual(desk.held(*calls, desk.begin(wrong)), before)
        steps = [desk.set_step(0, 2), desk.move_step(1)]
        given = desk.ask(*calls, desk.begin([0] * 1025), desk.begin([]), desk.move(1))
        told = desk.noted(desk.beginning(desk.session(first)), steps)
        self.assertEqual(given, [[0], told[0], [-2], [-6], told[1]])

    def test_begun_anew_all_before_is_gone(self):
        first, other = desk.panel(3, 2), desk.panel(1, 4)
        given = desk.ask(desk.begin(first), desk.move(1), desk.begin(other), desk.undo(), desk.move(2))
        told = desk.noted(desk.beginning(desk.session(other)), [desk.move_step(2)])
        self.assertEqual(given[2:], [[0], [-5]] + told)


if __name__ == "__main__":
    unittest.main()
