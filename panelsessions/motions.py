"""Motions of a panel: left and right changed, and quarter turns."""

from panelsessions.panels import Panel
from panelsessions.panels import level_sign
from panelsessions.panels import upright_sign

MOST_MOTION = 7


def mirrored(panel):
    """The panel with left and right changed."""
    wide = panel.wide
    signs = []
    for y in range(panel.high):
        signs.extend([upright_sign(panel, wide - 2 - x, y) for x in range(wide - 1)])
    for y in range(panel.high - 1):
        signs.extend([level_sign(panel, wide - 1 - x, y) for x in range(wide)])
    return Panel(wide, panel.high, signs)


def turned(panel):
    """The panel turned clockwise by a quarter: upright places come from level ones, level ones from upright."""
    high = panel.high
    signs = []
    for y in range(panel.wide):
        signs.extend([level_sign(panel, y, high - 2 - x) for x in range(high - 1)])
    for y in range(panel.wide - 1):
        signs.extend([upright_sign(panel, y, high - 1 - x) for x in range(high)])
    return Panel(high, panel.wide, signs)


def moved(panel, motion):
    """The panel moved by this motion, 0 to 7."""
    if motion >= 4:
        panel = mirrored(panel)
    for turn in range(motion % 4):
        panel = turned(panel)
    return panel
