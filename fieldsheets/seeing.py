"""What the camera sees of the levels on the table."""

from fieldsheets.dials import value_at
from fieldsheets.levels import Level, uppermost_paint
from fieldsheets.reading import bytes_of


def looked_at(middle, count, zoom):
    """Along one edge of the field, count points long: which of the table's places each point looks at."""
    return [middle + (2 * k + 1 - count) * zoom // 128 for k in range(count)]


def seen(levels, across, down):
    """The paints that are seen by the field's points' numbers, from the places that they look at."""
    paints = []
    for v in down:
        paints.extend([uppermost_paint(levels, u, v) for u in across])
    return paints


def level_at_frame(sheet, f, name, painted):
    dx = value_at(sheet, name + bytes_of(".x"), f)
    dy = value_at(sheet, name + bytes_of(".y"), f)
    return Level(painted, dx, dy)


def seen_at_frame(sheet, f, named_sheets):
    """What is seen at frame f of painted sheets that lie where the camera sheet's dials have them."""
    levels = [level_at_frame(sheet, f, name, painted) for name, painted in named_sheets]
    zoom = value_at(sheet, bytes_of("zoom"), f)
    across = looked_at(value_at(sheet, bytes_of("x"), f), sheet.width, zoom)
    down = looked_at(value_at(sheet, bytes_of("y"), f), sheet.height, zoom)
    return seen(levels, across, down)
