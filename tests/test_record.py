import random
import unittest

from panelsessions.record import answers
from tests import desk


class Runs:
    """Runs of calls by a fixed seed, with what they answer by the slow model."""

    def __init__(self, seed):
        self.random = random.Random(seed)
        self.model = None
        self.before = []
        self.calls = []
        self.told = []

    def add(self, call, told):
        self.calls.append(call)
        self.told.append(told)

    def start(self, kind):
        wide, high = self.random.randint(1, 8), self.random.randint(1, 8)
        count = len(desk.places(wide, high))
        first = desk.panel(wide, high, [self.random.randrange(3) for _ in range(count)])
        steps = [desk.move_step(self.random.randrange(8)) for _ in range(self.random.randrange(5))]
        cut = self.random.randint(0, len(steps))
        if kind == 0:
            self.model = desk.Model(first)
            self.add(desk.begin(first), [0])
        else:
            self.model = desk.Model(first, steps[:cut], steps[cut:])
            self.add(desk.load(self.model.bytes()), [0])
        self.before = desk.beginning(self.model.bytes())

    def note(self, call, change):
        self.before = self.before + change
        self.add(call, [0] + change + desk.low(desk.crc(self.before), 4))

    def change(self):
        kind = self.random.randrange(3)
        count = len(self.model.first) - 6
        place, number = self.random.randint(0, count), self.random.randint(0, 8)
        sign = number % 4
        if kind == 0:
            self.undo()
        elif kind == 1 and number > 7 or kind == 2 and sign > 2:
            self.add(desk.move(number) if kind == 1 else desk.set_at(place, sign), [-1])
        elif kind == 2 and place == count:
            self.add(desk.set_at(place, sign), [-4])
        elif len(self.model.done) == 64:
            self.add(desk.move(number) if kind == 1 else desk.set_at(place, sign), [-3])
        else:
            self.step(desk.move_step(number) if kind == 1 else desk.set_step(place, sign))

    def undo(self):
        if self.model.done:
            self.model.undo()
            self.note(desk.undo(), desk.UNDO)
        else:
            self.add(desk.undo(), [-5])

    def step(self, step):
        self.model.step(step)
        self.note(desk.move(step[2]) if step[0] else desk.set_at(step[2], step[4]), step)


def run(seed):
    runs = Runs(seed)
    runs.start(0)
    for _ in range(150):
        if runs.random.randrange(40) == 0:
            runs.start(runs.random.randrange(2))
        runs.change()
    return runs


class Record(unittest.TestCase):
    def test_an_empty_list(self):
        self.assertEqual(answers([]), [])

    def test_the_form_of_the_answers(self):
        first = desk.panel(2, 1, [0])
        begun = desk.beginning(desk.session(first))
        told = desk.notes(begun, [desk.set_step(0, 2)])[0]
        calls = desk.undo() + desk.begin(first) + desk.set_at(0, 2) + desk.set_at(1, 2) + desk.play(begun)
        self.assertEqual(answers(calls), [1, -8, 1, 0, 13, 0] + told + [1, -4, 2, 0, len(begun)])

    def test_rows_without_numbers(self):
        self.assertEqual(answers([1, 0, 2, 0, 3, 0, 6]), [1, -6, 1, -9, 1, -9, 1, -8])

    def test_runs_of_calls(self):
        for seed in range(12):
            runs = run(seed)
            self.assertEqual(desk.ask(*runs.calls), runs.told)
            self.assertEqual(desk.held(*runs.calls), (runs.model.bytes(), runs.model.panel()))

    def test_what_is_handed_in_is_not_changed(self):
        calls = sum(run(1).calls, []) + desk.play(desk.beginning(desk.session(desk.panel(2, 2)))) + desk.set_at(0, 1)
        kept = list(calls)
        answers(calls)
        self.assertEqual(calls, kept)

    def test_what_is_handed_in_is_not_changed_for_a_while(self):
        class Still(list):
            def refuse(self, *values):
                raise AssertionError("what is handed in was changed")

            __setitem__ = __delitem__ = __iadd__ = __imul__ = refuse
            append = extend = insert = pop = remove = clear = sort = reverse = refuse

        calls = sum(run(2).calls, [])
        self.assertEqual(answers(Still(calls)), answers(calls))

    def test_two_lists_do_not_know_of_each_other(self):
        runs = run(3)
        calls = sum(runs.calls, [])
        given = answers(calls)
        self.assertEqual(answers(desk.undo()), [1, -8])
        self.assertEqual(answers(calls), given)
        given.append(0)
        self.assertEqual(desk.split(answers(calls)), runs.told)

    def test_whole_numbers_alone_are_given_back(self):
        given = answers(sum(run(4).calls, []))
        self.assertIs(type(given), list)
        self.assertEqual({type(number) for number in given}, {int})

    def test_long_lists_are_gone_through_by_loops(self):
        self.assertEqual(desk.ask(desk.load([0] * 30900)), [[-9]])
        self.assertEqual(desk.ask(desk.play([0] * 30900)), [[-9]])
        begun = desk.beginning(desk.session(desk.panel(1, 1)))
        self.assertEqual(desk.ask(desk.play(begun + [0] * (30900 - len(begun)))), [[0, len(begun)]])
        self.assertEqual(answers(desk.undo() * 200), [1, -8] * 200)


if __name__ == "__main__":
    unittest.main()
