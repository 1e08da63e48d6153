import unittest

from panelsessions.record import Record
from tests import desk

FIRST = desk.panel(3, 2)
DONE = [desk.set_step(6, 2), desk.move_step(5), desk.set_step(0, 0)]
BACK = [desk.move_step(3), desk.set_step(1, 1)]


class Load(unittest.TestCase):
    def assert_refused(self, numbers):
        self.assertEqual(desk.ask(desk.load(numbers), desk.undo()), [[-9], [-8]])

    def assert_held(self, first, done, back):
        model = desk.Model(first, done, back)
        self.assertEqual(desk.ask(desk.load(model.bytes())), [[0]])
        self.assertEqual(desk.held(desk.load(model.bytes())), (model.bytes(), model.panel()))

    def test_no_steps_on_every_size(self):
        for wide in range(1, 9):
            for high in range(1, 9):
                self.assert_held(desk.panel(wide, high), [], [])

    def test_steps_done_and_taken_back(self):
        steps = DONE + BACK
        for cut in range(len(steps) + 1):
            self.assert_held(FIRST, steps[:cut], steps[cut:])

    def test_a_loaded_session_goes_on(self):
        numbers = desk.session(FIRST, DONE, BACK)
        changes = [desk.UNDO, desk.UNDO, desk.UNDO]
        given = desk.ask(desk.load(numbers), desk.undo(), desk.undo(), desk.undo(), desk.undo())
        self.assertEqual(given, [[0]] + desk.noted(desk.beginning(numbers), changes) + [[-5]])
        undone = desk.held(desk.load(numbers), desk.undo(), desk.undo())
        model = desk.Model(FIRST, DONE[:1], DONE[1:] + BACK)
        self.assertEqual(undone, (model.bytes(), model.panel()))

    def test_a_step_forgets_what_was_loaded_as_taken_back(self):
        after = desk.held(desk.load(desk.session(FIRST, DONE, BACK)), desk.set_at(2, 2))
        model = desk.Model(FIRST, DONE + [desk.set_step(2, 2)])
        self.assertEqual(after, (model.bytes(), model.panel()))

    def test_64_steps_of_both_and_no_more(self):
        steps = [desk.move_step(k % 8) for k in range(65)]
        for cut in (0, 1, 32, 63, 64):
            self.assert_held(FIRST, steps[:cut], steps[cut:64])
        for cut in (0, 1, 32, 64, 65):
            self.assert_refused(desk.session(FIRST, steps[:cut], steps[cut:]))

    def test_another_mark(self):
        for at in range(4):
            numbers = desk.unsummed_session(FIRST, DONE, BACK)
            numbers[at] ^= 1
            self.assert_refused(desk.summed(numbers))
        numbers = desk.unsummed_session(FIRST, DONE, BACK)
        self.assert_refused(desk.summed(list(b"PLJ1") + numbers[4:]))

    def test_every_shorter_length(self):
        numbers = desk.session(FIRST, DONE, BACK)
        for size in range(len(numbers)):
            self.assert_refused(numbers[:size])
        bare = desk.unsummed_session(FIRST, DONE, BACK)
        for size in range(len(bare)):
            self.assert_refused(desk.summed(bare[:size]))

    def test_bytes_behind(self):
        numbers = desk.session(FIRST, DONE, BACK)
        self.assert_refused(numbers + [0])
        self.assert_refused(numbers + numbers)
        for more in ([0], desk.set_step(0, 0)):
            self.assert_refused(desk.summed(desk.unsummed_session(FIRST, DONE, BACK) + more))

    def test_counts_that_are_not_so(self):
        bare = desk.unsummed_session(FIRST, DONE, BACK)
        for at in (4, 8 + len(FIRST), 12 + len(FIRST)):
            for off in range(4):
                for value in (1, 255):
                    numbers = list(bare)
                    numbers[at + off] = (numbers[at + off] + value) % 256
                    self.assert_refused(desk.summed(numbers))

    def test_a_wrong_sum(self):
        numbers = desk.session(FIRST, DONE, BACK)
        for at in range(len(numbers)):
            wrong = list(numbers)
            wrong[at] ^= 16
            self.assert_refused(wrong)
        self.assert_refused(numbers[:-4] + numbers[:-5:-1])

    def test_a_wrong_panel(self):
        for first in (desk.panel(9, 1), desk.panel(2, 2, [0, 0, 0, 3]), FIRST + [0], FIRST[:-1], FIRST[:5], []):
            self.assert_refused(desk.session(first))

    def test_steps_that_can_not_be_done(self):
        wrong = [desk.set_step(7, 0), desk.set_step(256, 0), desk.set_step(0, 3), desk.set_step(0, 256),
                 desk.move_step(8), desk.move_step(256), desk.UNDO, desk.REDO, [4, 0, 0, 0, 0, 0, 0, 0],
                 [255, 0, 0, 0, 0, 0, 0, 0]]
        for step in wrong:
            self.assert_refused(desk.session(FIRST, [step], []))
            self.assert_refused(desk.session(FIRST, [], [step]))
            self.assert_refused(desk.session(FIRST, DONE + [step], BACK))
            self.assert_refused(desk.session(FIRST, DONE, BACK + [step]))
        self.assert_refused(desk.session(desk.panel(1, 1), [desk.set_step(0, 0)]))

    def test_bytes_that_are_not_just_a_steps(self):
        for right, noughts in ((desk.set_step(1, 1), (1, 3, 5, 6, 7)), (desk.move_step(1), (1, 3, 4, 5, 6, 7))):
            for at in noughts:
                for value in (1, 255):
                    step = list(right)
                    step[at] = value
                    self.assert_refused(desk.session(FIRST, [step], []))
                    self.assert_refused(desk.session(FIRST, [], [step]))

    def test_refused_the_session_before_stays(self):
        calls = [desk.begin(FIRST), desk.move(1), desk.undo()]
        before = desk.held(*calls)
        for wrong in ([], desk.session(FIRST, [desk.move_step(8)]), desk.session(FIRST, DONE, BACK)[:-1]):
            self.assertEqual(desk.held(*calls, desk.load(wrong)), before)
        given = desk.ask(*calls, desk.load([]), desk.move(2))
        changes = [desk.move_step(1), desk.UNDO, desk.move_step(2)]
        told = desk.noted(desk.beginning(desk.session(FIRST)), changes)
        self.assertEqual(given, [[0]] + told[:2] + [[-9]] + told[2:])

    def test_too_long(self):
        # The one list has no room for so many bytes, so the record itself is asked.
        self.assertEqual(Record().load([0] * 65537), [-2])
        self.assertEqual(Record().load([0] * 65536), [-9])


if __name__ == "__main__":
    unittest.main()
