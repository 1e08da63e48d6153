import unittest

from tests import desk

FIRST = desk.panel(3, 2)
BEGUN = desk.beginning(desk.session(FIRST))
GREATEST = 4294967295


class Changes(unittest.TestCase):
    def assert_noted(self, calls, changes):
        """Behind begin these calls answer the notes of these changes."""
        self.assertEqual(desk.ask(desk.begin(FIRST), *calls), [[0]] + desk.noted(BEGUN, changes))

    def assert_refused(self, call, refusal, *before):
        """This call behind these is refused, and changes neither the session nor the journal."""
        given = desk.ask(*before, call, desk.undo())
        self.assertEqual(given[len(before)], [refusal])
        self.assertEqual(given[-1], desk.ask(*before, desk.undo())[-1])
        self.assertEqual(desk.held(*before, call), desk.held(*before))

    def test_a_note_written_out(self):
        # Panel PLP1 1 1, session of 26 bytes, journal's beginning of 34.
        bare = list(b"PLS1") + [6, 0, 0, 0] + list(b"PLP1") + [1, 1] + [0] * 8
        begun = list(b"PLJ1") + [26, 0, 0, 0] + bare + desk.low(desk.crc(bare), 4)
        change = [1, 0, 7, 0, 0, 0, 0, 0]
        given = desk.ask(desk.begin(list(b"PLP1") + [1, 1]), desk.move(7))
        self.assertEqual(given[1], [0] + change + desk.low(desk.crc(begun + change), 4))

    def test_set_every_place_to_every_sign(self):
        for place in range(7):
            for sign in range(3):
                self.assert_noted([desk.set_at(place, sign)], [desk.set_step(place, sign)])
                told = list(FIRST)
                told[6 + place] = sign
                self.assertEqual(desk.held(desk.begin(FIRST), desk.set_at(place, sign))[1], told)

    def test_the_last_place_of_the_greatest_panel(self):
        first = desk.panel(8, 8)
        given = desk.ask(desk.begin(first), desk.set_at(111, 2), desk.set_at(112, 2))
        told = desk.noted(desk.beginning(desk.session(first)), [desk.set_step(111, 2)])
        self.assertEqual(given, [[0]] + told + [[-4]])

    def test_set_what_stands_there_already_is_a_step(self):
        calls = [desk.set_at(1, 1), desk.undo(), desk.undo()]
        given = desk.ask(desk.begin(FIRST), *calls)
        self.assertEqual(given, [[0]] + desk.noted(BEGUN, [desk.set_step(1, 1), desk.UNDO]) + [[-5]])

    def test_every_motion_is_noted(self):
        for motion in range(8):
            self.assert_noted([desk.move(motion), desk.undo()], [desk.move_step(motion), desk.UNDO])

    def test_notes_behind_one_another(self):
        calls = [desk.set_at(6, 1), desk.move(1), desk.undo(), desk.set_at(0, 2), desk.undo(), desk.undo()]
        changes = [desk.set_step(6, 1), desk.move_step(1), desk.UNDO, desk.set_step(0, 2), desk.UNDO, desk.UNDO]
        self.assert_noted(calls, changes)

    def test_undo_takes_the_last_step_back(self):
        calls = [desk.begin(FIRST), desk.set_at(6, 1), desk.move(1), desk.set_at(6, 0)]
        steps = [desk.set_step(6, 1), desk.move_step(1), desk.set_step(6, 0)]
        for count in range(4):
            model = desk.Model(FIRST, steps[:3 - count], steps[3 - count:])
            self.assertEqual(desk.held(*calls, *[desk.undo()] * count), (model.bytes(), model.panel()))

    def test_a_step_forgets_what_was_taken_back(self):
        before = [desk.begin(FIRST), desk.move(1), desk.set_at(0, 2), desk.undo(), desk.undo()]
        for call, step in ((desk.set_at(3, 2), desk.set_step(3, 2)), (desk.move(4), desk.move_step(4))):
            model = desk.Model(FIRST, [step])
            self.assertEqual(desk.held(*before, call), (model.bytes(), model.panel()))

    def test_refusals_of_set(self):
        before = [desk.begin(FIRST), desk.move(1)]
        for sign in (3, 4, 256, 65536, GREATEST):
            self.assert_refused(desk.set_at(0, sign), -1, *before)
            self.assert_refused(desk.set_at(7, sign), -1, *before)
        for place in (7, 8, 256, 65536, GREATEST):
            self.assert_refused(desk.set_at(place, 0), -4, *before)
        self.assert_refused(desk.set_at(0, 0), -4, desk.begin(desk.panel(1, 1)))

    def test_refusals_of_move(self):
        for motion in (8, 9, 256, 65536, GREATEST):
            self.assert_refused(desk.move(motion), -1, desk.begin(FIRST), desk.move(1))

    def test_refusals_of_undo(self):
        self.assert_refused(desk.undo(), -5, desk.begin(FIRST))
        self.assert_refused(desk.undo(), -5, desk.begin(FIRST), desk.move(1), desk.undo())
        loaded = desk.session(FIRST, [], [desk.move_step(1)])
        self.assert_refused(desk.undo(), -5, desk.load(loaded))

    def test_64_steps_and_the_order_of_refusals(self):
        full = [desk.begin(FIRST)] + [desk.move(k % 8) for k in range(64)]
        self.assertEqual([given[0] for given in desk.ask(*full)], [0] * 65)
        self.assert_refused(desk.set_at(0, 0), -3, *full)
        self.assert_refused(desk.set_at(7, 0), -4, *full)
        self.assert_refused(desk.set_at(0, 3), -1, *full)
        self.assert_refused(desk.set_at(7, 3), -1, *full)
        self.assert_refused(desk.move(0), -3, *full)
        self.assert_refused(desk.move(8), -1, *full)

    def test_at_64_steps_one_taken_back_makes_room_for_one(self):
        full = [desk.begin(FIRST)] + [desk.move(k % 8) for k in range(64)]
        given = desk.ask(*full, desk.set_at(0, 0), desk.undo(), desk.set_at(0, 0), desk.move(1))
        changes = [desk.move_step(k % 8) for k in range(64)] + [desk.UNDO, desk.set_step(0, 0)]
        told = desk.noted(BEGUN, changes)
        self.assertEqual(given[65:], [[-3]] + told[64:] + [[-3]])

    def test_no_session_is_told_first(self):
        for call in (desk.set_at(0, 0), desk.set_at(0, 3), desk.set_at(GREATEST, GREATEST), desk.move(0),
                     desk.move(8), desk.undo(), [7], [8], [9], [10], [11], [12]):
            self.assertEqual(desk.ask(call), [[-8]])
            self.assertEqual(desk.ask(desk.begin([]), call), [[-6], [-8]])
            self.assertIsNone(desk.held(call))


if __name__ == "__main__":
    unittest.main()
