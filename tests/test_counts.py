import itertools
import math
import random
import unittest

from tests import desk

SMALL = ((1, 1), (2, 1), (1, 2), (3, 1), (1, 4), (2, 2), (3, 2), (2, 3))


def small_panels():
    """All panels of a few small sizes."""
    for wide, high in SMALL:
        for signs in itertools.product(range(3), repeat=len(desk.places(wide, high))):
            yield desk.panel(wide, high, list(signs))


def some_panels(seed, count):
    """Panels up to 8 by 8, some with few breaks and some with many."""
    source = random.Random(seed)
    for _ in range(count):
        wide, high = source.randint(1, 8), source.randint(1, 8)
        weights = source.choice(((1, 1, 1), (8, 1, 1), (1, 6, 1), (1, 1, 6)))
        signs = source.choices(range(3), weights, k=len(desk.places(wide, high)))
        yield desk.panel(wide, high, signs)


def counts(*calls):
    return desk.ask(*calls, desk.COUNTS)[-1]


def strands(first, *calls):
    return counts(desk.begin(first), *calls)[4]


class Counts(unittest.TestCase):
    def test_one_square_alone(self):
        self.assertEqual(counts(desk.begin(desk.panel(1, 1))), [0, 1, 1, 0, 1, 0, 0])

    def test_two_squares(self):
        for wide, high in ((2, 1), (1, 2)):
            self.assertEqual([strands(desk.panel(wide, high, [sign])) for sign in range(3)], [1, 2, 1])

    def test_crossings_alone(self):
        for wide in range(1, 9):
            for high in range(1, 9):
                count = len(desk.places(wide, high))
                given = counts(desk.begin(desk.panel(wide, high, [0] * count)))
                self.assertEqual(given, [0, wide, high, count, math.gcd(wide, high), 0, 0])
        self.assertEqual(strands(desk.panel(8, 8, [0] * 112)), 8)
        self.assertEqual(strands(desk.panel(4, 3, [0] * 17)), 1)

    def test_breaks_along_alone_leave_each_square_by_itself(self):
        for wide in range(1, 9):
            for high in range(1, 9):
                count = len(desk.places(wide, high))
                given = counts(desk.begin(desk.panel(wide, high, [1] * count)))
                self.assertEqual(given, [0, wide, high, 0, wide * high, 0, 0])

    def test_breaks_across_alone_are_rings_round_the_corners_and_one_round_all(self):
        for wide in range(1, 9):
            for high in range(1, 9):
                first = desk.panel(wide, high, [2] * len(desk.places(wide, high)))
                self.assertEqual(strands(first), 1 + (wide - 1) * (high - 1))

    def test_wide_and_high_as_the_panel_stands(self):
        first = desk.panel(5, 2)
        for motion in range(8):
            given = counts(desk.begin(first), desk.move(motion))
            self.assertEqual(given[1:3], [2, 5] if motion % 2 else [5, 2])

    def test_all_panels_of_small_sizes(self):
        for first in small_panels():
            self.assertEqual(counts(desk.begin(first)), desk.Model(first).counts())

    def test_panels_up_to_8_by_8(self):
        for first in some_panels(1, 300):
            self.assertEqual(counts(desk.begin(first)), desk.Model(first).counts())

    def test_each_end_is_joined_with_just_one(self):
        # The plain way of counting is right only if it joins as the document says.
        for first in some_panels(2, 30):
            ends = sorted(end for pair in desk.joined(first) for end in pair)
            self.assertEqual(ends, list(range(8 * first[4] * first[5])))

    def test_crossings(self):
        first = desk.panel(3, 2, [0, 1, 2, 0, 0, 2, 1])
        self.assertEqual(counts(desk.begin(first))[3], 3)
        self.assertEqual(counts(desk.begin(first), desk.set_at(0, 1))[3], 2)
        self.assertEqual(counts(desk.begin(first), desk.set_at(0, 2))[3], 2)
        self.assertEqual(counts(desk.begin(first), desk.set_at(0, 0))[3], 3)
        self.assertEqual(counts(desk.begin(first), desk.set_at(6, 0))[3], 4)
        self.assertEqual(counts(desk.begin(first), desk.set_at(6, 0), desk.undo())[3], 3)

    def test_steps_done_and_taken_back(self):
        calls = [desk.begin(desk.panel(3, 2))]
        for call, told in ((desk.move(1), [1, 0]), (desk.set_at(0, 0), [2, 0]), (desk.move(3), [3, 0]),
                           (desk.undo(), [2, 1]), (desk.undo(), [1, 2]), (desk.redo(), [2, 1]),
                           (desk.redo(), [3, 0]), (desk.redo(), [3, 0]), (desk.undo(), [2, 1]),
                           (desk.move(9), [2, 1]), (desk.move(2), [3, 0]), (desk.undo(), [2, 1])):
            calls.append(call)
            self.assertEqual(counts(*calls)[5:], told)

    def test_64_steps(self):
        full = [desk.begin(desk.panel(3, 2))] + [desk.move(k % 8) for k in range(64)]
        self.assertEqual(counts(*full)[5:], [64, 0])
        self.assertEqual(counts(*full, *[desk.undo()] * 64)[5:], [0, 64])

    def test_behind_load_and_play(self):
        steps = [desk.move_step(1), desk.set_step(2, 1), desk.set_step(5, 2)]
        model = desk.Model(desk.panel(4, 3), steps[:1], steps[1:])
        self.assertEqual(counts(desk.load(model.bytes())), model.counts())
        told = model.behind([desk.REDO]).counts()
        self.assertEqual(counts(desk.play(desk.journal(model.bytes(), [desk.REDO]))), told)

    def test_set_strands_are_one_more_one_fewer_or_as_many(self):
        seen = set()
        for first in some_panels(3, 40):
            before = strands(first)
            for place in range(0, len(first) - 6, 3):
                for sign in range(3):
                    seen.add(strands(first, desk.set_at(place, sign)) - before)
        self.assertEqual(seen, {-1, 0, 1})

    def test_moved_there_are_as_many(self):
        for first in some_panels(4, 60):
            before = strands(first)
            for motion in range(8):
                self.assertEqual(strands(first, desk.move(motion)), before)

    def test_set_behind_a_motion(self):
        for first in some_panels(5, 40):
            for place in range(0, len(first) - 6, 5):
                changes = [desk.move_step(place % 8), desk.set_step(place, (first[6 + place] + 1) % 3)]
                given = counts(desk.begin(first), *[desk.call_of(change) for change in changes])
                self.assertEqual(given, desk.Model(first, changes).counts())


if __name__ == "__main__":
    unittest.main()
