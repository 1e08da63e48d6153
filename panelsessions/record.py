"""The record: what it holds, what each call does to it, and what is answered."""

from panelsessions.drawings import drawing_bytes
from panelsessions.journals import NOTE_SIZE
from panelsessions.journals import beginning_bytes
from panelsessions.journals import beginning_size
from panelsessions.journals import begun_journal
from panelsessions.journals import note_change
from panelsessions.journals import play_notes
from panelsessions.journals import read_beginning
from panelsessions.motions import MOST_MOTION
from panelsessions.panels import CROSSING
from panelsessions.panels import MOST_SIGN
from panelsessions.panels import panel_bytes
from panelsessions.panels import read_panel
from panelsessions.sessions import MOST_STEPS
from panelsessions.sessions import MOVE
from panelsessions.sessions import REDO
from panelsessions.sessions import SET
from panelsessions.sessions import Session
from panelsessions.sessions import UNDO
from panelsessions.sessions import back_count
from panelsessions.sessions import change_bytes
from panelsessions.sessions import panel_now
from panelsessions.sessions import read_session
from panelsessions.sessions import session_bytes
from panelsessions.strands import strand_count

CALL_BEGIN = 1
CALL_LOAD = 2
CALL_PLAY = 3
CALL_SET_AT = 4
CALL_MOVE = 5
CALL_UNDO = 6
CALL_REDO = 7
CALL_PANEL = 8
CALL_DRAWN = 9
CALL_COUNTS = 10
CALL_SAVE = 11

MOST_PANEL_BYTES = 1024
MOST_BYTES = 65536

OUT_OF_RANGE = -1
TOO_LONG = -2
ALL_STEPS_DONE = -3
NO_PLACE = -4
NOTHING_THERE = -5
NO_PANEL = -6
NO_SESSION = -8
WRONG_BYTES = -9


def counted(numbers):
    """How many numbers these are, and then they."""
    return [len(numbers)] + numbers


class Record:
    """A session and its journal, or None while there is no session."""

    def __init__(self):
        self.journal = None

    def begin(self, numbers):
        if len(numbers) > MOST_PANEL_BYTES:
            return [TOO_LONG]
        panel = read_panel(numbers)
        if panel is None:
            return [NO_PANEL]
        self.journal = begun_journal(Session(panel))
        return [0]

    def load(self, numbers):
        if len(numbers) > MOST_BYTES:
            return [TOO_LONG]
        session = read_session(numbers)
        if session is None:
            return [WRONG_BYTES]
        self.journal = begun_journal(session)
        return [0]

    def play(self, numbers):
        if len(numbers) > MOST_BYTES:
            return [TOO_LONG]
        journal = read_beginning(numbers)
        if journal is None:
            return [WRONG_BYTES]
        size = beginning_size(numbers)
        count = play_notes(journal, numbers, size)
        self.journal = journal
        return [count, size + count * NOTE_SIZE]

    def set_at(self, place, sign):
        if sign > MOST_SIGN:
            return [OUT_OF_RANGE]
        if place >= len(panel_now(self.journal.session).signs):
            return [NO_PLACE]
        return self.step(SET, place, sign)

    def move(self, motion):
        if motion > MOST_MOTION:
            return [OUT_OF_RANGE]
        return self.step(MOVE, motion, 0)

    def step(self, kind, first, second):
        if self.journal.session.done >= MOST_STEPS:
            return [ALL_STEPS_DONE]
        return [0] + note_change(self.journal, change_bytes(kind, first, second))

    def undo(self):
        if self.journal.session.done == 0:
            return [NOTHING_THERE]
        return [0] + note_change(self.journal, change_bytes(UNDO, 0, 0))

    def redo(self):
        if back_count(self.journal.session) == 0:
            return [NOTHING_THERE]
        return [0] + note_change(self.journal, change_bytes(REDO, 0, 0))

    def panel(self):
        return counted(panel_bytes(panel_now(self.journal.session)))

    def drawn(self):
        return counted(drawing_bytes(panel_now(self.journal.session)))

    def counts(self):
        session = self.journal.session
        panel = panel_now(session)
        crossings = panel.signs.count(CROSSING)
        return [0, panel.wide, panel.high, crossings, strand_count(panel), session.done, back_count(session)]

    def save(self):
        return counted(session_bytes(self.journal.session))

    def head(self):
        self.journal = begun_journal(self.journal.session)
        return counted(beginning_bytes(self.journal.session))


def call_end(calls, at):
    """Where the call ends that begins there."""
    number = calls[at]
    if number <= CALL_PLAY:
        return at + 2 + calls[at + 1]
    if number == CALL_SET_AT:
        return at + 3
    if number == CALL_MOVE:
        return at + 2
    return at + 1


def answer_to_change(record, call):
    """What a call answers that changes the session and is noted."""
    number = call[0]
    if number == CALL_SET_AT:
        return record.set_at(call[1], call[2])
    if number == CALL_MOVE:
        return record.move(call[1])
    if number == CALL_UNDO:
        return record.undo()
    return record.redo()


def answer_to_question(record, number):
    """What a call answers that asks for the session or what it comes to."""
    if number == CALL_PANEL:
        return record.panel()
    if number == CALL_DRAWN:
        return record.drawn()
    if number == CALL_COUNTS:
        return record.counts()
    if number == CALL_SAVE:
        return record.save()
    return record.head()


def answer_to(record, call):
    """What one call answers; call is its number and all that belongs to it."""
    number = call[0]
    if number == CALL_BEGIN:
        return record.begin(call[2:])
    if number == CALL_LOAD:
        return record.load(call[2:])
    if number == CALL_PLAY:
        return record.play(call[2:])
    if record.journal is None:
        return [NO_SESSION]
    if number <= CALL_REDO:
        return answer_to_change(record, call)
    return answer_to_question(record, number)


def answers(calls):
    """What a new record answers to these calls: for each how many numbers, and then they."""
    record = Record()
    given = []
    at = 0
    while at < len(calls):
        end = call_end(calls, at)
        answer = answer_to(record, calls[at:end])
        given.append(len(answer))
        given.extend(answer)
        at = end
    return given
