import unittest

from tests import desk

FIRST = desk.panel(3, 2)
STEPS = [desk.set_step(6, 1), desk.move_step(1), desk.set_step(6, 0), desk.move_step(6), desk.set_step(2, 2)]


class Panel(unittest.TestCase):
    def assert_shown(self, told, *calls):
        self.assertEqual(desk.ask(*calls, desk.PANEL)[-1], desk.counted(told))

    def test_written_out(self):
        first = [80, 76, 80, 49, 2, 2, 0, 1, 2, 0]
        self.assertEqual(desk.ask(desk.begin(first), desk.PANEL), [[0], [10, 80, 76, 80, 49, 2, 2, 0, 1, 2, 0]])

    def test_behind_begin(self):
        for wide in range(1, 9):
            for high in range(1, 9):
                first = desk.panel(wide, high)
                self.assert_shown(first, desk.begin(first))

    def test_behind_load(self):
        for cut in range(len(STEPS) + 1):
            model = desk.Model(FIRST, STEPS[:cut], STEPS[cut:])
            self.assert_shown(model.panel(), desk.load(model.bytes()))

    def test_behind_play(self):
        base = desk.Model(FIRST, STEPS[:2], STEPS[2:])
        changes = [desk.REDO, desk.REDO, desk.UNDO, desk.set_step(0, 2), desk.move_step(3), desk.UNDO]
        for count in range(len(changes) + 1):
            played = changes[:count]
            self.assert_shown(base.behind(played).panel(), desk.play(desk.journal(base.bytes(), played)))

    def test_behind_every_motion(self):
        for wide, high in ((1, 1), (3, 2), (2, 5), (1, 8), (8, 1), (4, 4), (8, 7)):
            first = desk.panel(wide, high)
            for motion in range(8):
                self.assert_shown(desk.moved(first, motion), desk.begin(first), desk.move(motion))

    def test_places_set_behind_a_motion(self):
        # Turned by a quarter the panel is 2 wide and 3 high: its places 0 to 2 are upright, 3 to 6 level.
        first = desk.panel(3, 2, [0] * 7)
        for place in range(7):
            told = desk.panel(2, 3, [0] * 7)
            told[6 + place] = 2
            self.assert_shown(told, desk.begin(first), desk.move(1), desk.set_at(place, 2))

    def test_behind_undo_and_redo(self):
        steps = [desk.call_of(step) for step in STEPS]
        panels = [desk.Model(FIRST, STEPS[:count]).panel() for count in range(len(STEPS) + 1)]
        calls = [desk.begin(FIRST)] + steps
        for count in reversed(range(len(STEPS))):
            calls = calls + [desk.undo()]
            self.assert_shown(panels[count], *calls)
        for count in range(1, len(STEPS) + 1):
            calls = calls + [desk.redo()]
            self.assert_shown(panels[count], *calls)

    def test_a_place_set_is_set_and_the_others_stay(self):
        for place in range(7):
            for sign in range(3):
                told = list(FIRST)
                told[6 + place] = sign
                self.assert_shown(told, desk.begin(FIRST), desk.set_at(place, sign))
                self.assert_shown(FIRST, desk.begin(FIRST), desk.set_at(place, sign), desk.undo())

    def test_asked_twice_it_is_the_same(self):
        given = desk.ask(desk.begin(FIRST), desk.PANEL, desk.PANEL)
        self.assertEqual(given[1], given[2])


if __name__ == "__main__":
    unittest.main()
