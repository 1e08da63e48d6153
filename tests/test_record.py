import random
import unittest

from panelsessions.record import answers
from tests import desk


class Runs:
    """Runs of calls by a fixed seed, with what they answer by the slow model."""

    def __init__(self, seed):
        self.random = random.Random(seed)
        # The journal: the model that it begins from, and the changes noted since.
        self.base = None
        self.changes = []
        self.model = None
        self.calls = []
        self.told = []

    def add(self, call, told):
        self.calls.append(call)
        self.told.append(told)

    def begin_journal(self, model):
        self.base = model
        self.changes = []
        self.model = model.behind([])

    def start(self):
        wide, high = self.random.randint(1, 8), self.random.randint(1, 8)
        count = len(desk.places(wide, high))
        first = desk.panel(wide, high, [self.random.randrange(3) for _ in range(count)])
        steps = [desk.move_step(self.random.randrange(8)) for _ in range(self.random.randrange(5))]
        cut = self.random.randint(0, len(steps))
        if self.random.randrange(2):
            self.begin_journal(desk.Model(first))
            self.add(desk.begin(first), [0])
        else:
            self.begin_journal(desk.Model(first, steps[:cut], steps[cut:]))
            self.add(desk.load(self.model.bytes()), [0])

    def play(self):
        """Play the journal so far, torn anywhere behind its beginning."""
        whole = desk.journal(self.base.bytes(), self.changes)
        size = len(whole) - 12 * len(self.changes)
        cut = self.random.randint(size, len(whole))
        count = (cut - size) // 12
        self.add(desk.play(whole[:cut]), [count, size + 12 * count])
        self.changes = self.changes[:count]
        self.model = self.base.behind(self.changes)

    def head(self):
        self.begin_journal(self.model)
        self.add(desk.HEAD, desk.counted(desk.beginning(self.model.bytes())))

    def question(self):
        at = self.random.randrange(4)
        self.add([desk.PANEL, desk.DRAWN, desk.COUNTS, desk.SAVE][at], self.model.asked()[at])

    def change(self, change, refusal):
        """This undo, redo or right step, which is refused so where it can't be done."""
        if self.model.can(change):
            self.model.change(change)
            self.changes = self.changes + [change]
            note = desk.notes(desk.beginning(self.base.bytes()), self.changes)[-1]
            self.add(desk.call_of(change), [0] + note)
        else:
            self.add(desk.call_of(change), [refusal])

    def set_at(self):
        count = len(self.model.first) - 6
        place, sign = self.random.randint(0, count), self.random.choice((0, 1, 2, 0, 1, 2, 3))
        if sign > 2 or place == count:
            self.add(desk.set_at(place, sign), [-1 if sign > 2 else -4])
        else:
            self.change(desk.set_step(place, sign), -3)

    def move(self):
        motion = self.random.randint(0, 8)
        if motion > 7:
            self.add(desk.move(motion), [-1])
        else:
            self.change(desk.move_step(motion), -3)

    def call(self):
        kind = self.random.choice("ssssmmuuurrqqq")
        if kind == "u":
            self.change(desk.UNDO, -5)
        elif kind == "r":
            self.change(desk.REDO, -5)
        elif kind == "s":
            self.set_at()
        elif kind == "m":
            self.move()
        else:
            self.question()


def run(seed):
    runs = Runs(seed)
    runs.start()
    while len(runs.calls) < 190:
        turn = runs.random.randrange(60)
        if turn == 0:
            runs.start()
        elif turn == 1:
            runs.play()
        elif turn == 2:
            runs.head()
        else:
            runs.call()
    return runs


class Record(unittest.TestCase):
    def test_an_empty_list(self):
        self.assertEqual(answers([]), [])

    def test_the_form_of_the_answers(self):
        first = desk.panel(2, 1, [0])
        begun = desk.beginning(desk.session(first))
        told = desk.notes(begun, [desk.set_step(0, 2)])[0]
        calls = desk.undo() + desk.begin(first) + desk.set_at(0, 2) + desk.set_at(1, 2) + desk.play(begun)
        self.assertEqual(answers(calls), [1, -8, 1, 0, 13, 0] + told + [1, -4, 2, 0, len(begun)])

    def test_rows_without_numbers(self):
        self.assertEqual(answers([1, 0, 2, 0, 3, 0, 6]), [1, -6, 1, -9, 1, -9, 1, -8])

    def test_runs_of_calls(self):
        for seed in range(12):
            runs = run(seed)
            self.assertEqual(desk.ask(*runs.calls), runs.told)
            questions = [desk.PANEL, desk.DRAWN, desk.COUNTS, desk.SAVE]
            self.assertEqual(desk.ask(*runs.calls, *questions)[-4:], runs.model.asked())

    def test_the_runs_have_every_call_and_refusal(self):
        calls, refusals = set(), set()
        for seed in range(12):
            runs = run(seed)
            self.assertLessEqual(len(runs.calls), 200)
            self.assertLessEqual(len(sum(runs.calls, [])), 31000)
            calls.update(call[0] for call in runs.calls)
            refusals.update(told[0] for told in runs.told if told[0] < 0)
        self.assertEqual(calls, set(range(1, 13)))
        self.assertEqual(refusals, {-1, -4, -5})

    def test_what_is_handed_in_is_not_changed(self):
        calls = sum(run(1).calls, []) + desk.play(desk.beginning(desk.session(desk.panel(2, 2)))) + desk.set_at(0, 1)
        kept = list(calls)
        answers(calls)
        self.assertEqual(calls, kept)

    def test_what_is_handed_in_is_not_changed_for_a_while(self):
        class Still(list):
            def refuse(self, *values):
                raise AssertionError("what is handed in was changed")

            __setitem__ = __delitem__ = __iadd__ = __imul__ = refuse
            append = extend = insert = pop = remove = clear = sort = reverse = refuse

        calls = sum(run(2).calls, [])
        self.assertEqual(answers(Still(calls)), answers(calls))

    def test_two_lists_do_not_know_of_each_other(self):
        runs = run(3)
        calls = sum(runs.calls, [])
        given = answers(calls)
        self.assertEqual(answers(desk.undo()), [1, -8])
        self.assertEqual(answers(calls), given)
        given.append(0)
        self.assertEqual(desk.split(answers(calls)), runs.told)

    def test_whole_numbers_alone_are_given_back(self):
        given = answers(sum(run(4).calls, []))
        self.assertIs(type(given), list)
        self.assertEqual({type(number) for number in given}, {int})

    def test_long_lists_are_gone_through_by_loops(self):
        self.assertEqual(desk.ask(desk.load([0] * 30900)), [[-9]])
        self.assertEqual(desk.ask(desk.play([0] * 30900)), [[-9]])
        begun = desk.beginning(desk.session(desk.panel(1, 1)))
        self.assertEqual(desk.ask(desk.play(begun + [0] * (30900 - len(begun)))), [[0, len(begun)]])
        self.assertEqual(answers(desk.undo() * 200), [1, -8] * 200)


if __name__ == "__main__":
    unittest.main()
