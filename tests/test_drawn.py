import unittest

from tests import desk


class Drawn(unittest.TestCase):
    def assert_drawn(self, first, text, *calls):
        given = desk.ask(desk.begin(first), *calls, desk.DRAWN)[-1]
        self.assertEqual(given, [len(text)] + [ord(letter) for letter in text])

    def test_one_square(self):
        self.assert_drawn(desk.panel(1, 1), "o\n")

    def test_each_sign_at_an_upright_place(self):
        self.assert_drawn(desk.panel(2, 1, [0]), "oxo\n")
        self.assert_drawn(desk.panel(2, 1, [1]), "o|o\n")
        self.assert_drawn(desk.panel(2, 1, [2]), "o-o\n")

    def test_each_sign_at_a_level_place(self):
        self.assert_drawn(desk.panel(1, 2, [0]), "o\nx\no\n")
        self.assert_drawn(desk.panel(1, 2, [1]), "o\n-\no\n")
        self.assert_drawn(desk.panel(1, 2, [2]), "o\n|\no\n")

    def test_one_high(self):
        self.assert_drawn(desk.panel(8, 1, [0, 1, 2, 2, 1, 0, 0]), "oxo|o-o-o|oxoxo\n")

    def test_one_wide(self):
        self.assert_drawn(desk.panel(1, 8, [0, 1, 2, 2, 1, 0, 0]), "o\nx\no\n-\no\n|\no\n|\no\n-\no\nx\no\nx\no\n")

    def test_places_in_their_order(self):
        first = desk.panel(3, 3, [0, 1, 2, 0, 1, 2, 0, 1, 2, 2, 1, 0])
        self.assert_drawn(first, "oxo|o\nx - |\no-oxo\n| - x\no|o-o\n")

    def test_8_by_8_of_each_sign(self):
        for sign, upright, level in ((0, "x", "x"), (1, "|", "-"), (2, "-", "|")):
            row = upright.join("o" * 8) + "\n"
            between = " ".join(level * 8) + "\n"
            self.assert_drawn(desk.panel(8, 8, [sign] * 112), between.join([row] * 8))

    def test_8_by_8_has_15_lines_of_16_bytes(self):
        self.assertEqual(desk.ask(desk.begin(desk.panel(8, 8)), desk.DRAWN)[1][0], 240)

    def test_every_size(self):
        for wide in range(1, 9):
            for high in range(1, 9):
                signs = [k * k % 7 % 3 for k in range(len(desk.places(wide, high)))]
                first = desk.panel(wide, high, signs)
                given = desk.ask(desk.begin(first), desk.DRAWN)[1]
                self.assertEqual(given, desk.counted(desk.drawing(first)))

    def test_the_panel_as_it_stands(self):
        first = desk.panel(2, 1, [1])
        self.assert_drawn(first, "o\n-\no\n", desk.move(1))
        self.assert_drawn(first, "o\n|\no\n", desk.move(1), desk.set_at(0, 2))
        self.assert_drawn(first, "o\n-\no\n", desk.move(1), desk.set_at(0, 2), desk.undo())
        self.assert_drawn(first, "o|o\n", desk.move(1), desk.set_at(0, 2), desk.undo(), desk.undo())
        self.assert_drawn(first, "o\n-\no\n", desk.move(1), desk.undo(), desk.redo())


if __name__ == "__main__":
    unittest.main()
