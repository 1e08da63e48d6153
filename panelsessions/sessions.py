"""Sessions: the changes that are done in one, and its bytes."""

from panelsessions.bytework import ALL_BITS
from panelsessions.bytework import low_first
from panelsessions.bytework import number_at
from panelsessions.bytework import bits_after
from panelsessions.bytework import sum_bytes
from panelsessions.motions import MOST_MOTION
from panelsessions.motions import moved
from panelsessions.panels import MOST_SIGN
from panelsessions.panels import panel_bytes
from panelsessions.panels import read_panel
from panelsessions.panels import with_sign

SESSION_MARK = (0x50, 0x4C, 0x53, 0x31)
MOST_STEPS = 64
CHANGE_SIZE = 8
SET = 0
MOVE = 1
UNDO = 2
REDO = 3


class Session:
    """All steps, those taken back behind those done, and the panels ahead of the first and behind each of them."""

    def __init__(self, first):
        self.panels = [first]
        self.steps = []
        self.done = 0


def panel_now(session):
    """The panel as it stands."""
    return session.panels[session.done]


def back_count(session):
    """How many steps are taken back."""
    return len(session.steps) - session.done


def change_bytes(kind, first, second):
    """The 8 bytes of a change; first and second are 0 for undo and redo."""
    return [kind, 0] + low_first(first, 2) + low_first(second, 2) + [0, 0]


def panel_behind(panel, code):
    """The panel behind the step with these 8 bytes, or None where they are no step's or it can't be done."""
    kind = code[0]
    first = number_at(code, 2, 2)
    second = number_at(code, 4, 2)
    if code != change_bytes(kind, first, second):
        return None
    if kind == SET and first < len(panel.signs) and second <= MOST_SIGN:
        return with_sign(panel, first, second)
    if kind == MOVE and first <= MOST_MOTION and second == 0:
        return moved(panel, first)
    return None


def do_step(session, code):
    """Do the step with these 8 bytes; False, and nothing is changed, where it can't be done."""
    if session.done >= MOST_STEPS:
        return False
    panel = panel_behind(panel_now(session), code)
    if panel is None:
        return False
    session.steps = session.steps[:session.done] + [code]
    session.panels = session.panels[:session.done + 1] + [panel]
    session.done += 1
    return True


def do_change(session, code):
    """Do the step, undo or redo with these 8 bytes; False, and nothing is changed, where it can't be done."""
    if code == change_bytes(UNDO, 0, 0):
        if session.done == 0:
            return False
        session.done -= 1
        return True
    if code == change_bytes(REDO, 0, 0):
        if back_count(session) == 0:
            return False
        session.done += 1
        return True
    return do_step(session, code)


def session_bytes(session):
    """The bytes of this session."""
    panel = panel_bytes(session.panels[0])
    numbers = list(SESSION_MARK) + low_first(len(panel), 4) + panel
    numbers.extend(low_first(session.done, 4))
    numbers.extend(low_first(back_count(session), 4))
    for code in session.steps:
        numbers.extend(code)
    return numbers + sum_bytes(bits_after(ALL_BITS, numbers))


def read_session(numbers):
    """The session with these bytes, or None where they are no right session's."""
    size = number_at(numbers, 4, 4)
    panel = read_panel(numbers[8:8 + size])
    if panel is None:
        return None
    done = number_at(numbers, 8 + size, 4)
    count = done + number_at(numbers, 12 + size, 4)
    start = 16 + size
    if count > MOST_STEPS or len(numbers) != start + count * CHANGE_SIZE + 4:
        return None
    session = Session(panel)
    for at in range(start, start + count * CHANGE_SIZE, CHANGE_SIZE):
        if not do_step(session, numbers[at:at + CHANGE_SIZE]):
            return None
    session.done = done
    # Bytes and sessions are one to one, so this compares the mark and the sum at once.
    if session_bytes(session) != numbers:
        return None
    return session
