import unittest

from tests import desk

FIRST = desk.panel(3, 2)
BASE = desk.session(FIRST)
BEGUN = desk.beginning(BASE)
STEPS = [desk.set_step(6, 1), desk.move_step(1), desk.set_step(6, 0), desk.move_step(6)]


def full_steps():
    """64 steps, set and move by turns."""
    return [desk.move_step(k % 8) if k % 2 else desk.set_step(k % 7, k % 3) for k in range(64)]


class Redo(unittest.TestCase):
    def assert_noted(self, start, model, changes):
        """These changes behind this call, which comes to this model, are noted, and leave what they should."""
        calls = [desk.call_of(change) for change in changes]
        told = desk.noted(desk.beginning(model.bytes()), changes)
        after = model.behind(changes).asked()
        given = desk.ask(start, *calls, desk.PANEL, desk.DRAWN, desk.COUNTS, desk.SAVE)
        self.assertEqual(given[1:], told + after)

    def assert_nothing_to_do_again(self, *before):
        given = desk.ask(*before, desk.redo(), desk.move(5))
        self.assertEqual(given[-2], [-5])
        self.assertEqual(given[-1], desk.ask(*before, desk.move(5))[-1])
        self.assertEqual(desk.held(*before, desk.redo()), desk.held(*before))

    def test_the_note_written_out(self):
        given = desk.ask(desk.begin(FIRST), desk.move(2), desk.undo(), desk.redo())
        before = BEGUN + desk.move_step(2) + [2] + [0] * 7
        change = [3, 0, 0, 0, 0, 0, 0, 0]
        self.assertEqual(given[3], [0] + change + desk.low(desk.crc(before + change), 4))

    def test_what_was_taken_back_last_is_done_first(self):
        for back in range(1, 5):
            for again in range(1, back + 1):
                changes = STEPS + [desk.UNDO] * back + [desk.REDO] * again
                self.assert_noted(desk.begin(FIRST), desk.Model(FIRST), changes)

    def test_done_again_as_behind(self):
        calls = [desk.call_of(step) for step in STEPS]
        for count in range(1, 5):
            before = [desk.begin(FIRST)] + calls[:count]
            around = [desk.undo()] * count + [desk.redo()] * count
            self.assertEqual(desk.held(*before, *around), desk.held(*before))

    def test_none_taken_back(self):
        self.assert_nothing_to_do_again(desk.begin(FIRST))
        self.assert_nothing_to_do_again(desk.begin(FIRST), desk.set_at(0, 1), desk.move(3))
        self.assert_nothing_to_do_again(desk.load(desk.session(FIRST, STEPS)))
        self.assert_nothing_to_do_again(desk.play(desk.journal(BASE, STEPS)))

    def test_all_done_again(self):
        self.assert_nothing_to_do_again(desk.begin(FIRST), desk.move(1), desk.undo(), desk.redo())
        self.assert_nothing_to_do_again(desk.load(desk.session(FIRST, [], STEPS)), *[desk.redo()] * 4)

    def test_a_step_behind_an_undo_forgets(self):
        for step in (desk.move(0), desk.set_at(0, 0), desk.set_at(3, 2)):
            before = [desk.begin(FIRST), desk.set_at(0, 1), desk.move(3), desk.undo(), step]
            self.assert_nothing_to_do_again(*before)
            self.assert_nothing_to_do_again(*before, desk.undo(), desk.redo())

    def test_a_refused_step_forgets_nothing(self):
        for wrong in (desk.move(8), desk.set_at(0, 3), desk.set_at(7, 0), desk.begin([]), desk.load([]), desk.play([])):
            given = desk.ask(desk.begin(FIRST), desk.move(3), desk.undo(), wrong, desk.redo())
            told = desk.noted(BEGUN, [desk.move_step(3), desk.UNDO, desk.REDO])
            self.assertEqual(given[4], told[2])

    def test_begun_anew_there_is_nothing_to_do_again(self):
        self.assert_nothing_to_do_again(desk.begin(FIRST), desk.move(1), desk.undo(), desk.begin(FIRST))

    def test_many_times_over(self):
        changes = STEPS + [desk.UNDO, desk.REDO] * 40 + [desk.UNDO] * 4 + [desk.REDO] * 4 + [desk.UNDO] * 3
        self.assert_noted(desk.begin(FIRST), desk.Model(FIRST), changes)

    def test_64_steps(self):
        steps = full_steps()
        changes = steps + [desk.UNDO] * 64 + [desk.REDO] * 64
        self.assert_noted(desk.begin(FIRST), desk.Model(FIRST), changes)
        calls = [desk.begin(FIRST)] + [desk.call_of(change) for change in changes]
        given = desk.ask(*calls, desk.redo(), desk.move(0))
        self.assertEqual(given[-2:], [[-5], [-3]])

    def test_behind_load_of_steps_taken_back(self):
        for cut in range(4):
            model = desk.Model(FIRST, STEPS[:cut], STEPS[cut:])
            for again in range(1, 5 - cut):
                self.assert_noted(desk.load(model.bytes()), model, [desk.REDO] * again)

    def test_behind_load_of_64_steps_taken_back(self):
        model = desk.Model(FIRST, [], full_steps())
        self.assert_noted(desk.load(model.bytes()), model, [desk.REDO] * 64)

    def test_behind_play_of_steps_taken_back(self):
        base = desk.Model(FIRST, STEPS[:2], STEPS[2:])
        for played in ([], [desk.REDO], [desk.UNDO], [desk.UNDO, desk.UNDO], [desk.move_step(4), desk.UNDO]):
            count = len(base.behind(played).back)
            begun = desk.beginning(base.bytes())
            again = [desk.REDO] * count
            given = desk.ask(desk.play(desk.journal(base.bytes(), played)), *[desk.redo()] * (count + 1), desk.SAVE)
            self.assertEqual(given[1:-2], desk.noted(begun, played + again)[len(played):])
            self.assertEqual(given[-2:], [[-5], desk.counted(base.behind(played + again).bytes())])


if __name__ == "__main__":
    unittest.main()
