"""Panels, and their bytes."""

PANEL_MARK = (0x50, 0x4C, 0x50, 0x31)
HEAD_SIZE = 6
MOST_SIDE = 8
CROSSING = 0
ALONG = 1
MOST_SIGN = 2


class Panel:
    """How wide and high a panel is, and what stands at its places; it is never changed, steps make new ones."""

    def __init__(self, wide, high, signs):
        self.wide = wide
        self.high = high
        self.signs = signs


def upright_count(wide, high):
    """How many places lie between two squares of one row."""
    return (wide - 1) * high


def place_count(wide, high):
    """How many places a panel of this size has."""
    return upright_count(wide, high) + wide * (high - 1)


def upright_sign(panel, x, y):
    """What stands between the squares (x, y) and (x + 1, y)."""
    return panel.signs[y * (panel.wide - 1) + x]


def level_sign(panel, x, y):
    """What stands between the squares (x, y) and (x, y + 1)."""
    return panel.signs[upright_count(panel.wide, panel.high) + y * panel.wide + x]


def is_side(number):
    """Whether a panel may be so many squares wide or high."""
    return 1 <= number <= MOST_SIDE


def read_panel(numbers):
    """The panel with these bytes, or None where they are no right panel's."""
    if len(numbers) < HEAD_SIZE or numbers[0:4] != list(PANEL_MARK):
        return None
    wide = numbers[4]
    high = numbers[5]
    if not is_side(wide) or not is_side(high):
        return None
    signs = numbers[HEAD_SIZE:]
    if len(signs) != place_count(wide, high):
        return None
    if any([sign > MOST_SIGN for sign in signs]):
        return None
    return Panel(wide, high, signs)


def panel_bytes(panel):
    """The bytes of this panel."""
    return list(PANEL_MARK) + [panel.wide, panel.high] + panel.signs


def with_sign(panel, place, sign):
    """The panel with this sign at this place, and all else as it was."""
    signs = list(panel.signs)
    signs[place] = sign
    return Panel(panel.wide, panel.high, signs)
