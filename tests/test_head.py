import unittest

from tests import desk

FIRST = desk.panel(3, 2)
STEPS = [desk.set_step(6, 2), desk.move_step(5), desk.set_step(0, 0)]
BEFORE = [desk.begin(FIRST)] + [desk.call_of(step) for step in STEPS] + [desk.undo(), desk.undo()]
MODEL = desk.Model(FIRST, STEPS[:1], STEPS[1:])
CHANGES = [desk.REDO, desk.UNDO, desk.REDO, desk.REDO, desk.UNDO, desk.move_step(2), desk.set_step(3, 1), desk.UNDO]
QUESTIONS = [desk.PANEL, desk.DRAWN, desk.COUNTS, desk.SAVE]


class Head(unittest.TestCase):
    def journal_by_calls(self):
        """The bytes that head and the calls behind it answer, one behind another, and how many head has."""
        given = desk.ask(*BEFORE, desk.HEAD, *[desk.call_of(change) for change in CHANGES])
        begun = given[len(BEFORE)]
        return begun[1:] + sum([note[1:] for note in given[len(BEFORE) + 1:]], []), begun[0]

    def test_written_out(self):
        bare = list(b"PLS1") + [6, 0, 0, 0] + list(b"PLP1") + [1, 1] + [1, 0, 0, 0] + [0, 0, 0, 0]
        bare += [1, 0, 3, 0, 0, 0, 0, 0]
        told = list(b"PLJ1") + [34, 0, 0, 0] + bare + desk.low(desk.crc(bare), 4)
        self.assertEqual(desk.ask(desk.begin(desk.panel(1, 1)), desk.move(3), desk.HEAD)[2], [42] + told)

    def test_the_bytes_are_of_the_session_as_it_is(self):
        for count in range(1, len(BEFORE) + 1):
            given = desk.ask(*BEFORE[:count], desk.SAVE, desk.HEAD)[count:]
            self.assertEqual(given[1], desk.counted(desk.beginning(given[0][1:])))
        self.assertEqual(given[1], desk.counted(desk.beginning(MODEL.bytes())))

    def test_of_64_steps(self):
        full = [desk.begin(desk.panel(8, 8))] + [desk.move(k % 8) for k in range(64)]
        given = desk.ask(*full, desk.HEAD, desk.undo())
        model = desk.Model(desk.panel(8, 8), [desk.move_step(k % 8) for k in range(64)])
        begun = desk.beginning(model.bytes())
        self.assertEqual(given[65:], [desk.counted(begun)] + desk.noted(begun, [desk.UNDO]))

    def test_notes_behind_go_on_from_that_beginning(self):
        given = desk.ask(*BEFORE, desk.HEAD, *[desk.call_of(change) for change in CHANGES])
        told = desk.noted(desk.beginning(MODEL.bytes()), CHANGES)
        self.assertEqual(given[len(BEFORE) + 1:], told)

    def test_without_head_the_sums_go_over_the_beginning_before(self):
        given = desk.ask(*BEFORE, desk.redo())[-1]
        told = desk.noted(desk.beginning(desk.session(FIRST)), STEPS + [desk.UNDO, desk.UNDO, desk.REDO])
        self.assertEqual(given, told[-1])
        self.assertNotEqual(given, desk.ask(*BEFORE, desk.HEAD, desk.redo())[-1])

    def test_the_session_stays(self):
        given = desk.ask(*BEFORE, *QUESTIONS, desk.HEAD, *QUESTIONS)[len(BEFORE):]
        self.assertEqual(given[:4], MODEL.asked())
        self.assertEqual(given[5:], MODEL.asked())

    def test_twice_behind_one_another(self):
        given = desk.ask(*BEFORE, desk.HEAD, desk.HEAD, desk.redo())[len(BEFORE):]
        begun = desk.beginning(MODEL.bytes())
        self.assertEqual(given, [desk.counted(begun)] * 2 + desk.noted(begun, [desk.REDO]))

    def test_with_a_change_between(self):
        given = desk.ask(*BEFORE, desk.HEAD, desk.redo(), desk.HEAD, desk.move(7))[len(BEFORE):]
        after = desk.beginning(MODEL.behind([desk.REDO]).bytes())
        self.assertEqual(given[2:], [desk.counted(after)] + desk.noted(after, [desk.move_step(7)]))

    def test_behind_load_and_play(self):
        begun = desk.beginning(MODEL.bytes())
        given = desk.ask(desk.load(MODEL.bytes()), desk.HEAD, desk.redo())
        self.assertEqual(given[1:], [desk.counted(begun)] + desk.noted(begun, [desk.REDO]))
        after = desk.beginning(MODEL.behind(CHANGES).bytes())
        given = desk.ask(desk.play(desk.journal(MODEL.bytes(), CHANGES)), desk.HEAD, desk.redo())
        self.assertEqual(given[1:], [desk.counted(after)] + desk.noted(after, [desk.REDO]))

    def test_played_whole_it_comes_to_the_session(self):
        numbers, size = self.journal_by_calls()
        told = [[len(CHANGES), len(numbers)]] + MODEL.behind(CHANGES).asked()
        self.assertEqual(desk.ask(desk.play(numbers), *QUESTIONS), told)

    def test_torn_anywhere_it_comes_to_what_was_noted_so_far(self):
        numbers, size = self.journal_by_calls()
        for cut in range(size):
            self.assertEqual(desk.ask(desk.play(numbers[:cut]), desk.SAVE), [[-9], [-8]])
        for cut in range(size, len(numbers) + 1):
            count = (cut - size) // 12
            told = [[count, size + 12 * count]] + MODEL.behind(CHANGES[:count]).asked()
            self.assertEqual(desk.ask(desk.play(numbers[:cut]), *QUESTIONS), told)

    def test_torn_and_played_the_journal_goes_on(self):
        numbers, size = self.journal_by_calls()
        for count in range(len(CHANGES)):
            given = desk.ask(desk.play(numbers[:size + 12 * count + 5]), desk.call_of(CHANGES[count]))
            note = numbers[size + 12 * count:size + 12 * count + 12]
            self.assertEqual(given, [[count, size + 12 * count], [0] + note])


if __name__ == "__main__":
    unittest.main()
