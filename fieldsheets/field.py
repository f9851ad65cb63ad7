"""The calls on camera sheets: each takes values and answers one list of whole numbers."""

from fieldsheets.reading import NotASheet, read_sheet

LONGEST_TEXT = 65536

TOO_LONG = -2
NO_SHEET = -6


def judge(t):
    """[0] for a camera sheet's text; else [-2], or [-6, fault]."""
    if len(t) > LONGEST_TEXT:
        return [TOO_LONG]
    try:
        read_sheet(t)
    except NotASheet as e:
        return [NO_SHEET, e.fault]
    return [0]


def sizes(t):
    """[N, W, H, how many dials]; else [-2] or [-6]."""
    if len(t) > LONGEST_TEXT:
        return [TOO_LONG]
    try:
        sheet = read_sheet(t)
    except NotASheet:
        return [NO_SHEET]
    return [sheet.frames, sheet.width, sheet.height, len(sheet.dials)]
