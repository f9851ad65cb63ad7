"""The levels that lie on the table, and their paints."""

CLEAR = 0


class Painted:
    """A painted sheet: how wide and high it is, its paints by its points' numbers."""

    def __init__(self, width, height, paints):
        self.width = width
        self.height = height
        self.paints = paints


class Level:
    """A painted sheet on the table, and how far it's moved."""

    def __init__(self, painted, dx, dy):
        self.painted = painted
        self.dx = dx
        self.dy = dy


def paint_at(level, u, v):
    """What the level has at the table's point (u, v)."""
    painted = level.painted
    x = u - level.dx
    y = v - level.dy
    if x < 0 or x >= painted.width or y < 0 or y >= painted.height:
        return CLEAR
    return painted.paints[y * painted.width + x]


def uppermost_paint(levels, u, v):
    for level in levels:
        paint = paint_at(level, u, v)
        if paint != CLEAR:
            return paint
    return CLEAR
