"""What the tests build by the document's words alone: bytes, calls, and a slow model of a session."""

from panelsessions.record import answers

# The calls without numbers that ask for something.
PANEL = [8]
DRAWN = [9]
COUNTS = [10]
SAVE = [11]
HEAD = [12]

# The 8 bytes of changes.
UNDO = [2, 0, 0, 0, 0, 0, 0, 0]
REDO = [3, 0, 0, 0, 0, 0, 0, 0]


def low(number, size):
    return list(number.to_bytes(size, "little"))


def remainders():
    table = []
    for value in range(256):
        for _ in range(8):
            value = value >> 1 ^ (0x82F63B78 if value & 1 else 0)
        table.append(value)
    return table


TABLE = remainders()


class RunningSum:
    """CRC-32C by a table of remainders, another way than the program's."""

    def __init__(self):
        self.bits = 0xFFFFFFFF

    def add(self, numbers):
        for number in numbers:
            self.bits = self.bits >> 8 ^ TABLE[(self.bits ^ number) & 255]
        return self.bits ^ 0xFFFFFFFF


def crc(numbers):
    return RunningSum().add(numbers)


def summed(numbers):
    return numbers + low(crc(numbers), 4)


def places(wide, high):
    """The two squares of each place, in the order of the places."""
    upright = [((x, y), (x + 1, y)) for y in range(high) for x in range(wide - 1)]
    level = [((x, y), (x, y + 1)) for y in range(high - 1) for x in range(wide)]
    return upright + level


def panel(wide, high, signs=None):
    if signs is None:
        signs = [k % 3 for k in range(len(places(wide, high)))]
    return list(b"PLP1") + [wide, high] + signs


def set_step(place, sign):
    return [0, 0] + low(place, 2) + low(sign, 2) + [0, 0]


def move_step(motion):
    return [1, 0] + low(motion, 2) + [0, 0, 0, 0]


def unsummed_session(first, done=(), back=()):
    numbers = list(b"PLS1") + low(len(first), 4) + first + low(len(done), 4) + low(len(back), 4)
    for step in list(done) + list(back):
        numbers = numbers + step
    return numbers


def session(first, done=(), back=()):
    return summed(unsummed_session(first, done, back))


def beginning(numbers):
    return list(b"PLJ1") + low(len(numbers), 4) + numbers


def notes(begun, changes):
    """The notes of these changes, behind one another, in a journal with this beginning."""
    running = RunningSum()
    running.add(begun)
    return [change + low(running.add(change), 4) for change in changes]


def journal(numbers, changes):
    begun = beginning(numbers)
    return begun + sum(notes(begun, changes), [])


def begin(numbers):
    return [1, len(numbers)] + numbers


def load(numbers):
    return [2, len(numbers)] + numbers


def play(numbers):
    return [3, len(numbers)] + numbers


def set_at(place, sign):
    return [4, place, sign]


def move(motion):
    return [5, motion]


def undo():
    return [6]


def redo():
    return [7]


def call_of(change):
    """The call that does this change."""
    if change == UNDO:
        return undo()
    if change == REDO:
        return redo()
    return move(change[2]) if change[0] else set_at(change[2], change[4])


def split(given):
    """The answers one by one."""
    found = []
    at = 0
    while at < len(given):
        end = at + 1 + given[at]
        found.append(given[at + 1:end])
        at = end
    return found


def ask(*calls):
    """What a new record answers to these calls, one by one."""
    return split(answers(sum(calls, [])))


def held(*calls):
    """The bytes of the session, and of the panel as it stands, that a new record holds behind these calls."""
    saved, shown = ask(*calls, SAVE, PANEL)[-2:]
    if [saved, shown] == [[-8], [-8]]:
        return None
    return saved[1:], shown[1:]


def counted(numbers):
    """How panel, drawn, save and head answer these bytes."""
    return [len(numbers)] + numbers


def noted(begun, changes):
    """What the calls of these changes answer."""
    return [[0] + note for note in notes(begun, changes)]


def moved(numbers, motion):
    """A panel's bytes moved, square by square."""
    wide, high = numbers[4], numbers[5]
    signs = dict(zip(places(wide, high), numbers[6:]))

    def goes(squares, to):
        return tuple(sorted(to(x, y) for x, y in squares))

    if motion >= 4:
        signs = {goes(pair, lambda x, y: (wide - 1 - x, y)): sign for pair, sign in signs.items()}
    for _ in range(motion % 4):
        signs = {goes(pair, lambda x, y: (high - 1 - y, x)): sign for pair, sign in signs.items()}
        wide, high = high, wide
    return panel(wide, high, [signs[pair] for pair in places(wide, high)])


def drawing(numbers):
    """The bytes of a panel's drawing, put sign by sign on a blank sheet."""
    wide, high = numbers[4], numbers[5]
    sheet = [[" "] * (2 * wide - 1) for _ in range(2 * high - 1)]
    for y in range(high):
        for x in range(wide):
            sheet[2 * y][2 * x] = "o"
    for ((x, y), (right, low_row)), sign in zip(places(wide, high), numbers[6:]):
        sheet[y + low_row][x + right] = "x|-"[sign] if y == low_row else "x-|"[sign]
    return list("".join("".join(row) + "\n" for row in sheet).encode())


def ends_at(square, side):
    """The end there of the piece that begins at this side, and of the one that ends there."""
    return 8 * square + 2 * side, 8 * square + 2 * ((side - 1) % 4) + 1


def joined(numbers):
    """All pairs of joined ends: every border side, and every place, by itself."""
    wide, high = numbers[4], numbers[5]
    found = []
    for x in range(wide):
        found += [ends_at(x, 0), ends_at((high - 1) * wide + x, 2)]
    for y in range(high):
        found += [ends_at(y * wide, 3), ends_at(y * wide + wide - 1, 1)]
    for ((x, y), (right, low_row)), sign in zip(places(wide, high), numbers[6:]):
        side = 1 if y == low_row else 2
        here = ends_at(y * wide + x, side)
        beyond = ends_at(low_row * wide + right, (side + 2) % 4)
        if sign == 1:
            found += [here, beyond]
        elif sign == 0:
            found += [(here[0], beyond[0]), (here[1], beyond[1])]
        else:
            found += [(here[0], beyond[1]), (here[1], beyond[0])]
    return found


def strands(numbers):
    """How many strands a panel has: pieces are thrown together, join by join."""
    heaps = [{piece} for piece in range(4 * numbers[4] * numbers[5])]
    for one, other in joined(numbers):
        first, second = heaps[one // 2], heaps[other // 2]
        if first is not second:
            first |= second
            for piece in second:
                heaps[piece] = first
    return len({id(heap) for heap in heaps})


class Model:
    """A session that keeps its steps alone and goes through all of them whenever it is asked."""

    def __init__(self, first, done=(), back=()):
        self.first = first
        self.done = list(done)
        self.back = list(back)

    def panel(self):
        numbers = list(self.first)
        for step in self.done:
            if step[0] == 0:
                numbers[6 + step[2]] = step[4]
            else:
                numbers = moved(numbers, step[2])
        return numbers

    def step(self, step):
        self.done.append(step)
        self.back = []

    def undo(self):
        self.back.insert(0, self.done.pop())

    def redo(self):
        self.done.append(self.back.pop(0))

    def can(self, change):
        """Whether an undo, a redo or a right step can be done now."""
        if change == UNDO:
            return bool(self.done)
        if change == REDO:
            return bool(self.back)
        return len(self.done) < 64

    def change(self, change):
        if change == UNDO:
            self.undo()
        elif change == REDO:
            self.redo()
        else:
            self.step(change)

    def behind(self, changes):
        """Another model, behind these changes."""
        other = Model(self.first, self.done, self.back)
        for change in changes:
            other.change(change)
        return other

    def bytes(self):
        return session(self.first, self.done, self.back)

    def counts(self):
        numbers = self.panel()
        steps = [len(self.done), len(self.back)]
        return [0, numbers[4], numbers[5], numbers[6:].count(0), strands(numbers)] + steps

    def asked(self):
        """What panel, drawn, counts and save answer."""
        numbers = self.panel()
        return [counted(numbers), counted(drawing(numbers)), self.counts(), counted(self.bytes())]
