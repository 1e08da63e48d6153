import unittest

from tests import desk

FIRST = desk.panel(3, 2)
STEPS = [desk.set_step(6, 2), desk.move_step(5), desk.set_step(0, 0), desk.move_step(3), desk.set_step(1, 1)]
QUESTIONS = [desk.PANEL, desk.DRAWN, desk.COUNTS, desk.SAVE]


def saved(*calls):
    given = desk.ask(*calls, desk.SAVE)[-1]
    assert given[0] == len(given) - 1
    return given[1:]


class Save(unittest.TestCase):
    def assert_saved(self, model, *calls):
        self.assertEqual(desk.ask(*calls, desk.SAVE)[-1], desk.counted(model.bytes()))

    def assert_loads_alike(self, *calls):
        """Loaded, what is saved behind these calls answers as the session itself, whatever comes then."""
        # With head both journals begin from the same session, so the notes behind are alike too.
        then = QUESTIONS + [desk.HEAD, desk.redo(), desk.SAVE, desk.undo(), desk.undo(), desk.move(1)] + QUESTIONS
        given = desk.ask(*calls, *then)[len(calls):]
        self.assertEqual(desk.ask(desk.load(saved(*calls)), *then)[1:], given)

    def test_written_out(self):
        bare = list(b"PLS1") + [7, 0, 0, 0] + list(b"PLP1") + [2, 1, 0] + [1, 0, 0, 0] + [1, 0, 0, 0]
        bare += [0, 0, 0, 0, 2, 0, 0, 0] + [1, 0, 6, 0, 0, 0, 0, 0]
        calls = [desk.begin(desk.panel(2, 1, [0])), desk.set_at(0, 2), desk.move(6), desk.undo()]
        self.assertEqual(desk.ask(*calls, desk.SAVE)[-1], [43] + bare + desk.low(desk.crc(bare), 4))

    def test_behind_begin(self):
        for wide in range(1, 9):
            for high in range(1, 9):
                first = desk.panel(wide, high)
                self.assert_saved(desk.Model(first), desk.begin(first))

    def test_the_panel_at_first_is_saved_and_not_the_one_that_stands(self):
        self.assert_saved(desk.Model(FIRST, STEPS), desk.begin(FIRST), *[desk.call_of(step) for step in STEPS])

    def test_steps_taken_back_stand_in_the_order_in_which_they_would_be_done_again(self):
        calls = [desk.begin(FIRST)] + [desk.call_of(step) for step in STEPS]
        for cut in range(len(STEPS) + 1):
            model = desk.Model(FIRST, STEPS[:cut], STEPS[cut:])
            self.assert_saved(model, *calls, *[desk.undo()] * (len(STEPS) - cut))
            self.assert_saved(model, *calls, *[desk.undo()] * len(STEPS), *[desk.redo()] * cut)

    def test_load_of_them_comes_to_the_same_session(self):
        calls = [desk.begin(FIRST)] + [desk.call_of(step) for step in STEPS]
        for count in range(len(calls)):
            for back in range(count + 1):
                self.assert_loads_alike(*calls[:1 + count], *[desk.undo()] * back)
                self.assert_loads_alike(*calls[:1 + count], *[desk.undo()] * back, *[desk.redo()] * (back // 2))

    def test_64_steps(self):
        full = [desk.begin(desk.panel(8, 8))] + [desk.move(k % 8) for k in range(64)]
        self.assertEqual(len(saved(*full)), 8 + 118 + 8 + 64 * 8 + 4)
        self.assert_loads_alike(*full)
        self.assert_loads_alike(*full, *[desk.undo()] * 64)

    def test_what_is_loaded_is_saved(self):
        for cut in range(len(STEPS) + 1):
            numbers = desk.session(FIRST, STEPS[:cut], STEPS[cut:])
            self.assertEqual(saved(desk.load(numbers)), numbers)
            self.assertEqual(saved(desk.play(desk.beginning(numbers))), numbers)

    def test_one_session_has_the_same_bytes_however_it_came_about(self):
        told = saved(desk.begin(FIRST), desk.move(1), desk.set_at(2, 2))
        ways = ([desk.move(1), desk.set_at(2, 2), desk.undo(), desk.redo()],
                [desk.move(2), desk.undo(), desk.move(1), desk.set_at(2, 2)],
                [desk.move(1), desk.set_at(2, 2), desk.undo(), desk.undo(), desk.redo(), desk.redo()],
                [desk.move(1), desk.HEAD, desk.set_at(2, 1), desk.undo(), desk.set_at(2, 2)],
                [desk.move(1), desk.PANEL, desk.set_at(2, 2), desk.DRAWN, desk.COUNTS, desk.SAVE])
        for way in ways:
            self.assertEqual(saved(desk.begin(FIRST), *way), told)

    def test_other_sessions_have_other_bytes(self):
        # The panel is the same behind all of these.
        ways = ([], [desk.move(0)], [desk.move(0), desk.move(0)], [desk.set_at(1, 1)], [desk.set_at(2, 2)],
                [desk.move(2), desk.move(2)], [desk.move(4), desk.move(4)], [desk.move(0), desk.undo()],
                [desk.move(2), desk.undo()], [desk.move(0), desk.move(0), desk.undo()],
                [desk.set_at(1, 0), desk.undo()], [desk.set_at(1, 2), desk.undo()], [desk.set_at(0, 2), desk.undo()])
        found = [desk.held(desk.begin(FIRST), *way) for way in ways]
        self.assertEqual({tuple(shown) for numbers, shown in found}, {tuple(FIRST)})
        self.assertEqual(len({tuple(numbers) for numbers, shown in found}), len(ways))

    def test_save_changes_nothing(self):
        calls = [desk.begin(FIRST), desk.move(1), desk.undo()]
        given = desk.ask(*calls, desk.SAVE, desk.SAVE, desk.redo(), desk.COUNTS)
        self.assertEqual(given[3], given[4])
        self.assertEqual(given[5:], desk.ask(*calls, desk.redo(), desk.COUNTS)[3:])


if __name__ == "__main__":
    unittest.main()
