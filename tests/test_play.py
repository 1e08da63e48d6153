import unittest

from panelsessions.record import Record
from tests import desk

FIRST = desk.panel(2, 4)
DONE = [desk.move_step(6), desk.set_step(3, 1)]
BACK = [desk.set_step(9, 2)]
BASE = desk.session(FIRST, DONE, BACK)
BEGUN = desk.beginning(BASE)
CHANGES = [desk.REDO, desk.set_step(0, 2), desk.UNDO, desk.UNDO, desk.REDO, desk.move_step(3), desk.UNDO]


def model_behind(changes):
    return desk.Model(FIRST, DONE, BACK).behind(changes)


class Play(unittest.TestCase):
    def assert_played(self, numbers, changes):
        """These bytes are played as far as these changes go, and the journal goes on behind them."""
        count = len(changes)
        model = model_behind(changes)
        call, change = (desk.undo(), desk.UNDO) if model.done else (desk.move(7), desk.move_step(7))
        given = desk.ask(desk.play(numbers), call)
        told = desk.noted(BEGUN, changes + [change])
        self.assertEqual(given, [[count, len(BEGUN) + 12 * count], told[-1]])
        self.assertEqual(desk.held(desk.play(numbers)), (model.bytes(), model.panel()))

    def assert_refused(self, numbers):
        self.assertEqual(desk.ask(desk.play(numbers), desk.undo()), [[-9], [-8]])

    def assert_ends_at(self, wrong, changes=CHANGES):
        """A note with this change, its sum right, is not played behind the others, nor is what follows."""
        self.assert_played(desk.journal(BASE, changes + [wrong, desk.move_step(0)]), changes)

    def test_a_whole_journal(self):
        for count in range(len(CHANGES) + 1):
            self.assert_played(desk.journal(BASE, CHANGES[:count]), CHANGES[:count])

    def test_a_fresh_session(self):
        base = desk.session(desk.panel(1, 1))
        given = desk.ask(desk.play(desk.journal(base, [desk.move_step(1)])), desk.undo(), desk.undo())
        told = desk.noted(desk.beginning(base), [desk.move_step(1), desk.UNDO])
        self.assertEqual(given, [[1, len(base) + 8 + 12], told[1], [-5]])

    def test_torn_anywhere(self):
        whole = desk.journal(BASE, CHANGES)
        for size in range(len(BEGUN)):
            self.assert_refused(whole[:size])
        for size in range(len(BEGUN), len(whole) + 1):
            self.assert_played(whole[:size], CHANGES[:(size - len(BEGUN)) // 12])

    def test_a_wrong_byte_anywhere_in_the_notes(self):
        whole = desk.journal(BASE, CHANGES)
        for at in range(len(BEGUN), len(whole)):
            wrong = list(whole)
            wrong[at] ^= 1
            self.assert_played(wrong, CHANGES[:(at - len(BEGUN)) // 12])

    def test_a_sum_that_takes_in_the_sums_between(self):
        notes = desk.notes(BEGUN, CHANGES[:1])
        wrong = CHANGES[1] + desk.low(desk.crc(BEGUN + notes[0] + CHANGES[1]), 4)
        self.assert_played(BEGUN + notes[0] + wrong, CHANGES[:1])

    def test_a_sum_of_the_change_alone(self):
        self.assert_played(BEGUN + desk.summed(CHANGES[0]), [])

    def test_a_note_left_out(self):
        notes = desk.notes(BEGUN, CHANGES)
        self.assert_played(BEGUN + notes[0] + notes[2], CHANGES[:1])

    def test_bytes_behind(self):
        whole = desk.journal(BASE, CHANGES)
        for more in ([0], [0] * 11, [0] * 12, [255] * 100, whole):
            self.assert_played(whole + more, CHANGES)

    def test_notes_that_can_not_be_done(self):
        for wrong in (desk.set_step(10, 0), desk.set_step(256, 0), desk.set_step(0, 3), desk.set_step(0, 256),
                      desk.move_step(8), desk.move_step(256), [4, 0, 0, 0, 0, 0, 0, 0]):
            self.assert_ends_at(wrong)

    def test_bytes_that_are_not_just_a_changes(self):
        for right in (desk.set_step(1, 1), desk.move_step(1), desk.UNDO, desk.REDO):
            for at in range(1, 8):
                wrong = list(right)
                wrong[at] += 16
                self.assert_ends_at(wrong)

    def test_undo_with_nothing_to_take_back(self):
        self.assert_ends_at(desk.UNDO, [desk.UNDO, desk.UNDO])

    def test_redo_with_nothing_to_do_again(self):
        self.assert_ends_at(desk.REDO, [desk.REDO])
        self.assert_ends_at(desk.REDO, [desk.move_step(1)])

    def test_64_steps_are_done(self):
        fill = [desk.move_step(k % 8) for k in range(62)]
        self.assert_ends_at(desk.move_step(1), fill)
        self.assert_ends_at(desk.set_step(1, 1), fill)
        self.assert_played(desk.journal(BASE, fill + [desk.UNDO, desk.REDO]), fill + [desk.UNDO, desk.REDO])
        self.assertEqual(desk.ask(desk.play(desk.journal(BASE, fill)), desk.move(0))[1], [-3])

    def test_more_notes_than_steps(self):
        changes = [desk.UNDO, desk.move_step(5)] * 1250
        numbers = desk.journal(BASE, changes)
        self.assertLessEqual(len(numbers), 30900)
        self.assert_played(numbers, changes)

    def test_no_journals_beginning(self):
        self.assert_refused([])
        for at in range(4):
            numbers = list(BEGUN)
            numbers[at] ^= 1
            self.assert_refused(numbers)
        self.assert_refused(BASE)
        self.assert_refused(list(b"PLJ1") + BASE)

    def test_a_beginning_of_no_right_session(self):
        for wrong in ([], FIRST, BASE[:-1], BASE + [0], desk.session(desk.panel(9, 1)),
                      desk.session(FIRST, [desk.move_step(8)]), desk.session(FIRST, [desk.move_step(1)] * 65)):
            self.assert_refused(desk.beginning(wrong))
            self.assert_refused(desk.beginning(wrong) + [0] * 24)

    def test_a_beginning_with_another_length(self):
        right = len(BASE)
        for size in (0, right - 1, right + 1, right + 12, right + 2 ** 16, right + 2 ** 24, 2 ** 32 - 1):
            numbers = list(b"PLJ1") + desk.low(size, 4) + BASE
            self.assert_refused(numbers)
            self.assert_refused(numbers + desk.notes(BEGUN, [desk.UNDO])[0])

    def test_refused_the_session_before_stays(self):
        calls = [desk.begin(FIRST), desk.move(1)]
        for wrong in ([], BEGUN[:-1], list(b"PLJ1") + desk.low(len(BASE) + 1, 4) + BASE):
            self.assertEqual(desk.held(*calls, desk.play(wrong)), desk.held(*calls))
        told = desk.noted(desk.beginning(desk.session(FIRST)), [desk.move_step(1), desk.UNDO])
        self.assertEqual(desk.ask(*calls, desk.play(BEGUN[:-1]), desk.undo()), [[0], told[0], [-9], told[1]])

    def test_what_was_noted_is_played(self):
        given = desk.ask(desk.load(BASE), desk.set_at(4, 0), desk.undo(), desk.move(6))
        numbers = BEGUN + given[1][1:] + given[2][1:] + given[3][1:]
        self.assert_played(numbers, [desk.set_step(4, 0), desk.UNDO, desk.move_step(6)])

    def test_too_long(self):
        # The one list has no room for so many bytes, so the record itself is asked.
        self.assertEqual(Record().play(BEGUN + [0] * (65537 - len(BEGUN))), [-2])
        self.assertEqual(Record().play(BEGUN + [0] * (65536 - len(BEGUN))), [0, len(BEGUN)])


if __name__ == "__main__":
    unittest.main()
