"""What the tests build by the document's words alone: bytes, calls, and a slow model of a session."""

from panelsessions.panels import panel_bytes
from panelsessions.record import Record, answer_to, answers
from panelsessions.sessions import panel_now, session_bytes

UNDO = [2, 0, 0, 0, 0, 0, 0, 0]
REDO = [3, 0, 0, 0, 0, 0, 0, 0]


def low(number, size):
    return list(number.to_bytes(size, "little"))


def remainders():
    table = []
    for value in range(256):
        for _ in range(8):
            value = value >> 1 ^ (0x82F63B78 if value & 1 else 0)
        table.append(value)
    return table


TABLE = remainders()


class RunningSum:
    """CRC-32C by a table of remainders, another way than the program's."""

    def __init__(self):
        self.bits = 0xFFFFFFFF

    def add(self, numbers):
        for number in numbers:
            self.bits = self.bits >> 8 ^ TABLE[(self.bits ^ number) & 255]
        return self.bits ^ 0xFFFFFFFF


def crc(numbers):
    return RunningSum().add(numbers)


def summed(numbers):
    return numbers + low(crc(numbers), 4)


def places(wide, high):
    """The two squares of each place, in the order of the places."""
    upright = [((x, y), (x + 1, y)) for y in range(high) for x in range(wide - 1)]
    level = [((x, y), (x, y + 1)) for y in range(high - 1) for x in range(wide)]
    return upright + level


def panel(wide, high, signs=None):
    if signs is None:
        signs = [k % 3 for k in range(len(places(wide, high)))]
    return list(b"PLP1") + [wide, high] + signs


def set_step(place, sign):
    return [0, 0] + low(place, 2) + low(sign, 2) + [0, 0]


def move_step(motion):
    return [1, 0] + low(motion, 2) + [0, 0, 0, 0]


def unsummed_session(first, done=(), back=()):
    numbers = list(b"PLS1") + low(len(first), 4) + first + low(len(done), 4) + low(len(back), 4)
    for step in list(done) + list(back):
        numbers = numbers + step
    return numbers


def session(first, done=(), back=()):
    return summed(unsummed_session(first, done, back))


def beginning(numbers):
    return list(b"PLJ1") + low(len(numbers), 4) + numbers


def notes(begun, changes):
    """The notes of these changes, behind one another, in a journal with this beginning."""
    running = RunningSum()
    running.add(begun)
    return [change + low(running.add(change), 4) for change in changes]


def journal(numbers, changes):
    begun = beginning(numbers)
    return begun + sum(notes(begun, changes), [])


def begin(numbers):
    return [1, len(numbers)] + numbers


def load(numbers):
    return [2, len(numbers)] + numbers


def play(numbers):
    return [3, len(numbers)] + numbers


def set_at(place, sign):
    return [4, place, sign]


def move(motion):
    return [5, motion]


def undo():
    return [6]


def split(given):
    """The answers one by one."""
    found = []
    at = 0
    while at < len(given):
        end = at + 1 + given[at]
        found.append(given[at + 1:end])
        at = end
    return found


def ask(*calls):
    """What a new record answers to these calls, one by one."""
    return split(answers(sum(calls, [])))


def held(*calls):
    """The bytes of the session, and of the panel as it stands, that a new record holds behind these calls."""
    record = Record()
    for call in calls:
        answer_to(record, list(call))
    if record.journal is None:
        return None
    return session_bytes(record.journal.session), panel_bytes(panel_now(record.journal.session))


def noted(begun, changes):
    """What the calls of these changes answer."""
    return [[0] + note for note in notes(begun, changes)]


def moved(numbers, motion):
    """A panel's bytes moved, square by square."""
    wide, high = numbers[4], numbers[5]
    signs = dict(zip(places(wide, high), numbers[6:]))

    def goes(squares, to):
        return tuple(sorted(to(x, y) for x, y in squares))

    if motion >= 4:
        signs = {goes(pair, lambda x, y: (wide - 1 - x, y)): sign for pair, sign in signs.items()}
    for _ in range(motion % 4):
        signs = {goes(pair, lambda x, y: (high - 1 - y, x)): sign for pair, sign in signs.items()}
        wide, high = high, wide
    return panel(wide, high, [signs[pair] for pair in places(wide, high)])


class Model:
    """A session that keeps its steps alone and goes through all of them whenever it is asked."""

    def __init__(self, first, done=(), back=()):
        self.first = first
        self.done = list(done)
        self.back = list(back)

    def panel(self):
        numbers = list(self.first)
        for step in self.done:
            if step[0] == 0:
                numbers[6 + step[2]] = step[4]
            else:
                numbers = moved(numbers, step[2])
        return numbers

    def step(self, step):
        self.done.append(step)
        self.back = []

    def undo(self):
        self.back.insert(0, self.done.pop())

    def redo(self):
        self.done.append(self.back.pop(0))

    def bytes(self):
        return session(self.first, self.done, self.back)
