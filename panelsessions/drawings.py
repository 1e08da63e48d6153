"""Drawings of panels."""

from panelsessions.panels import level_sign
from panelsessions.panels import upright_sign

# By what stands there: a crossing, a break along, a break across.
UPRIGHT_SIGNS = "x|-"
LEVEL_SIGNS = "x-|"


def square_line(panel, y):
    """The line of a row of squares, with the upright places between them."""
    line = "o"
    for x in range(panel.wide - 1):
        line += UPRIGHT_SIGNS[upright_sign(panel, x, y)] + "o"
    return line + "\n"


def level_line(panel, y):
    """The line of the level places below a row of squares."""
    signs = [LEVEL_SIGNS[level_sign(panel, x, y)] for x in range(panel.wide)]
    return " ".join(signs) + "\n"


def drawing(panel):
    """The drawing of this panel, as a text."""
    text = square_line(panel, 0)
    for y in range(panel.high - 1):
        text += level_line(panel, y) + square_line(panel, y + 1)
    return text


def drawing_bytes(panel):
    """The bytes of this panel's drawing."""
    return [ord(letter) for letter in drawing(panel)]
