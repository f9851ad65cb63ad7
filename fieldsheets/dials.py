"""Which value a dial has at a frame."""

from fieldsheets.easing import eased
from fieldsheets.reading import bytes_of

USUAL_ZOOM = 64
USUAL_LIGHT = 64


def value_of_dial(dial, f):
    held = dial.first
    for start, end, target, ease in dial.moves:
        if f < start:
            return held
        if f < end:
            return eased(ease, end - start, f - start, held, target)
        held = target
    return held


def usual_value(sheet, dial_name):
    """The value at every frame of a dial that the sheet doesn't have."""
    if dial_name == bytes_of("x"):
        return sheet.width // 2
    if dial_name == bytes_of("y"):
        return sheet.height // 2
    if dial_name == bytes_of("zoom"):
        return USUAL_ZOOM
    if dial_name == bytes_of("light"):
        return USUAL_LIGHT
    return 0


def value_at(sheet, dial_name, f):
    for dial in sheet.dials:
        if dial.name == dial_name:
            return value_of_dial(dial, f)
    return usual_value(sheet, dial_name)


def least_and_greatest(sheet, dial_name):
    """The dial's least value, the first frame that has it, its greatest value, the first frame that has it."""
    course = [value_at(sheet, dial_name, f) for f in range(sheet.frames)]
    least = min(course)
    greatest = max(course)
    return [least, course.index(least), greatest, course.index(greatest)]
