import unittest

from tests import desk

FIRST = desk.panel(3, 2)
GREATEST = 4294967295
QUESTIONS = [desk.PANEL, desk.DRAWN, desk.COUNTS, desk.SAVE]
FULL = [desk.begin(FIRST)] + [desk.move(k % 8) for k in range(64)]
WRONG_ANYWHERE = (
    (desk.begin([0] * 1025), -2), (desk.begin([]), -6), (desk.begin(desk.panel(9, 1)), -6), (desk.load([]), -9),
    (desk.load(desk.session(FIRST, [desk.move_step(8)])), -9), (desk.play([]), -9),
    (desk.play(desk.beginning(desk.session(FIRST))[:-1]), -9), (desk.set_at(0, 3), -1),
    (desk.set_at(GREATEST, GREATEST), -1), (desk.set_at(7, 0), -4), (desk.set_at(GREATEST, 2), -4),
    (desk.move(8), -1), (desk.move(GREATEST), -1))


class Refused(unittest.TestCase):
    def assert_refused(self, call, refusal, before, after):
        """Refused behind those calls; what is asked then, and the notes that follow, are as without it."""
        then = QUESTIONS + after + QUESTIONS + [desk.HEAD]
        given = desk.ask(*before, call, call, *then)[len(before):]
        self.assertEqual(given[:2], [[refusal]] * 2)
        self.assertEqual(given[2:], desk.ask(*before, *then)[len(before):])

    def test_with_steps_done_and_taken_back(self):
        before = [desk.begin(FIRST), desk.move(1), desk.set_at(0, 2), desk.move(3), desk.undo(), desk.undo()]
        for call, refusal in WRONG_ANYWHERE:
            self.assert_refused(call, refusal, before, [desk.redo(), desk.undo(), desk.undo(), desk.move(5)])

    def test_without_steps(self):
        for call, refusal in WRONG_ANYWHERE + ((desk.undo(), -5), (desk.redo(), -5)):
            self.assert_refused(call, refusal, [desk.begin(FIRST)], [desk.move(5), desk.undo()])

    def test_behind_load_play_and_head(self):
        base = desk.session(FIRST, [desk.move_step(2)], [desk.move_step(4)])
        played = desk.play(desk.journal(base, [desk.REDO, desk.UNDO]))
        for before in ([desk.load(base)], [played], [played, desk.HEAD], [played, desk.undo(), desk.HEAD]):
            for call, refusal in WRONG_ANYWHERE:
                self.assert_refused(call, refusal, before, [desk.redo(), desk.set_at(1, 1)])

    def test_all_steps_taken_back(self):
        before = [desk.begin(FIRST), desk.move(1), desk.undo()]
        self.assert_refused(desk.undo(), -5, before, [desk.redo(), desk.undo()])

    def test_all_steps_done_again(self):
        before = [desk.begin(FIRST), desk.move(1), desk.undo(), desk.redo()]
        self.assert_refused(desk.redo(), -5, before, [desk.undo(), desk.redo()])

    def test_64_steps_done(self):
        for call, refusal in ((desk.set_at(0, 0), -3), (desk.move(0), -3), (desk.redo(), -5)):
            self.assert_refused(call, refusal, FULL, [desk.undo(), desk.redo(), desk.undo(), desk.move(1)])

    def test_no_session(self):
        calls = [desk.set_at(0, 0), desk.move(0), desk.undo(), desk.redo(), desk.PANEL, desk.DRAWN, desk.COUNTS,
                 desk.SAVE, desk.HEAD]
        self.assertEqual([call[0] for call in calls], list(range(4, 13)))
        for call in calls:
            self.assertEqual(desk.ask(call), [[-8]])
            for wrong, refusal in ((desk.begin([]), -6), (desk.load([]), -9), (desk.play([]), -9)):
                self.assertEqual(desk.ask(wrong, call), [[refusal], [-8]])
            # What was refused leaves nothing behind for the session that comes then.
            then = [desk.begin(FIRST), desk.move(1), desk.SAVE]
            self.assertEqual(desk.ask(call, *then), [[-8]] + desk.ask(*then))
        self.assertEqual(desk.ask(*calls, *calls), [[-8]] * 18)


if __name__ == "__main__":
    unittest.main()
