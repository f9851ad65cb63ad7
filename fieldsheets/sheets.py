"""What a camera sheet tells, and how its parts are found by their numbers."""

from fieldsheets.refusals import NotThere


class Sheet:
    """A camera sheet: its name, how many frames, its field's width and height, its dials."""

    def __init__(self, name, frames, width, height, dials):
        self.name = name
        self.frames = frames
        self.width = width
        self.height = height
        self.dials = dials


class Dial:
    """A dial: its name's bytes, its first value, its moves, each of them a tuple of F, T, V and the ease's number."""

    def __init__(self, name, first, moves):
        self.name = name
        self.first = first
        self.moves = moves


def find_dial(sheet, k):
    if k >= len(sheet.dials):
        raise NotThere()
    return sheet.dials[k]


def find_move(dial, i):
    if i >= len(dial.moves):
        raise NotThere()
    return dial.moves[i]


def check_frame(sheet, f):
    if f >= sheet.frames:
        raise NotThere()
