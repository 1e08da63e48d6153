"""Strands: which ends of pieces are joined, and how many strands they come to."""

from panelsessions.panels import ALONG
from panelsessions.panels import CROSSING
from panelsessions.panels import level_sign
from panelsessions.panels import upright_sign

UPPER = 0
RIGHT = 1
LOWER = 2
# How far beyond each side, from the upper one on, the next square lies.
SIDE_STEPS = ((0, -1), (1, 0), (0, 1), (-1, 0))


def side_sign(panel, x, y, side):
    """What stands on this side of the square; the border joins as a break along does, and counts as one."""
    if side == UPPER:
        return level_sign(panel, x, y - 1) if y > 0 else ALONG
    if side == RIGHT:
        return upright_sign(panel, x, y) if x < panel.wide - 1 else ALONG
    if side == LOWER:
        return level_sign(panel, x, y) if y < panel.high - 1 else ALONG
    return upright_sign(panel, x - 1, y) if x > 0 else ALONG


def end_at(square, side, begins):
    """The end there of the piece that begins at this side of the square, or else of the one that ends there."""
    if begins:
        return 8 * square + 2 * side
    return 8 * square + 2 * ((side + 3) % 4) + 1


def joined_end(panel, end):
    """The end with which this one is joined."""
    square = end // 8
    x = square % panel.wide
    y = square // panel.wide
    begins = end % 2 == 0
    side = (end % 8 // 2 + end % 2) % 4
    sign = side_sign(panel, x, y, side)
    if sign == ALONG:
        return end_at(square, side, not begins)
    step = SIDE_STEPS[side]
    beyond = (y + step[1]) * panel.wide + x + step[0]
    return end_at(beyond, (side + 2) % 4, begins if sign == CROSSING else not begins)


def follow_strand(panel, piece, seen):
    """Mark all pieces of the strand of this piece as seen."""
    end = 2 * piece
    # Each end is joined with just one, so the way from piece to piece comes back to the first.
    while end // 2 not in seen:
        seen[end // 2] = True
        end = joined_end(panel, end ^ 1)


def strand_count(panel):
    """How many strands the panel has."""
    seen = {}
    count = 0
    for piece in range(4 * panel.wide * panel.high):
        if piece not in seen:
            follow_strand(panel, piece, seen)
            count += 1
    return count
