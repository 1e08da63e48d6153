"""Journals: their beginnings, the notes of changes, and how they are played."""

from panelsessions.bytework import ALL_BITS
from panelsessions.bytework import low_first
from panelsessions.bytework import number_at
from panelsessions.bytework import bits_after
from panelsessions.bytework import sum_bytes
from panelsessions.sessions import CHANGE_SIZE
from panelsessions.sessions import do_change
from panelsessions.sessions import read_session
from panelsessions.sessions import session_bytes

JOURNAL_MARK = (0x50, 0x4C, 0x4A, 0x31)
HEAD_SIZE = 8
NOTE_SIZE = 12


class Journal:
    """A session, and the 32 bits of the sum over the journal's beginning and each change noted so far."""

    def __init__(self, session, bits):
        self.session = session
        self.bits = bits


def beginning_bytes(session):
    """The beginning of a journal that is begun from this session."""
    numbers = session_bytes(session)
    return list(JOURNAL_MARK) + low_first(len(numbers), 4) + numbers


def begun_journal(session):
    """A journal that is begun from this session, with nothing noted yet."""
    return Journal(session, bits_after(ALL_BITS, beginning_bytes(session)))


def note_change(journal, code):
    """Do the change with these 8 bytes, which can be done, and answer its note."""
    do_change(journal.session, code)
    journal.bits = bits_after(journal.bits, code)
    return code + sum_bytes(journal.bits)


def beginning_size(numbers):
    """How many bytes the beginning of this journal has, as it tells itself."""
    return HEAD_SIZE + number_at(numbers, 4, 4)


def read_beginning(numbers):
    """The journal, with nothing noted yet, whose beginning these bytes begin with, or None."""
    size = beginning_size(numbers)
    # A slice stops at the end by itself, and what it holds then may still be a right session.
    if numbers[0:4] != list(JOURNAL_MARK) or len(numbers) < size:
        return None
    session = read_session(numbers[HEAD_SIZE:size])
    if session is None:
        return None
    return begun_journal(session)


def play_note(journal, note):
    """Play this note; False, and nothing is changed, where its sum is another or it can't be done."""
    code = note[:CHANGE_SIZE]
    bits = bits_after(journal.bits, code)
    if note[CHANGE_SIZE:] != sum_bytes(bits):
        return False
    if not do_change(journal.session, code):
        return False
    journal.bits = bits
    return True


def play_notes(journal, numbers, start):
    """Play the notes that stand whole from there on, as far as they go; how many they are."""
    count = 0
    while start + NOTE_SIZE <= len(numbers) and play_note(journal, numbers[start:start + NOTE_SIZE]):
        start += NOTE_SIZE
        count += 1
    return count
