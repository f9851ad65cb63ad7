"""Reading a camera sheet's text.

A byte is passed over only where some camera sheet's text begins with all the bytes before it and with it. So
wherever the reading can't go on, the number of bytes passed over is the fault.
"""

from fieldsheets.refusals import NotASheet, TooLong, WrongInput
from fieldsheets.sheets import Dial, Sheet

LONGEST_TEXT = 65536
MOST_FRAMES = 1024
LONGEST_SIDE = 256
LONGEST_NAME = 16
MOST_DIALS = 32
MOST_MOVES = 64
MOST_ZOOM = 256
MOST_LIGHT = 64
LEAST_VALUE = -9999
MOST_VALUE = 9999

PLAIN_DIALS = ("x", "y", "zoom", "light")
LEVEL_ENDINGS = (".x", ".y")
EASES = ("even", "in", "out", "both")

NO_BYTE = -1


class Reader:
    """A text and how many of its bytes are passed over."""

    def __init__(self, t):
        self.t = t
        self.at = 0

    def at_end(self):
        return self.at == len(self.t)

    def peek(self):
        if self.at_end():
            return NO_BYTE
        return self.t[self.at]

    def advance(self):
        self.at += 1

    def comes(self, sign):
        return self.peek() == ord(sign)

    def take(self, word):
        for sign in word:
            if not self.comes(sign):
                raise NotASheet(self.at)
            self.advance()


def bytes_of(word):
    return [ord(sign) for sign in word]


def is_letter(byte):
    return ord("a") <= byte <= ord("z")


def is_digit(byte):
    return ord("0") <= byte <= ord("9")


def is_name(part):
    if len(part) < 1 or len(part) > LONGEST_NAME or not is_letter(part[0]):
        return False
    return all([is_letter(byte) or is_digit(byte) for byte in part])


def is_dial_name(part):
    if part in [bytes_of(word) for word in PLAIN_DIALS]:
        return True
    return part[-2:] in [bytes_of(ending) for ending in LEVEL_ENDINGS] and is_name(part[:-2])


def check_dial_name(s):
    if not is_dial_name(s):
        raise WrongInput()


def begins_free_dial(part, used):
    """Whether a dial's name that isn't used yet begins with part."""
    stem = part
    if ord(".") in part:
        stem = part[:part.index(ord("."))]
    if not is_name(stem):
        return False
    # A name that can still grow can do so in more ways than a sheet has dials, so one of them is free.
    if len(part) == len(stem) and len(stem) < LONGEST_NAME:
        return True
    for ending in LEVEL_ENDINGS:
        whole = stem + bytes_of(ending)
        if whole[:len(part)] == part and tuple(whole) not in used:
            return True
    return False


def least_and_most(dial_name):
    """The least and the greatest value that a dial of this name may have."""
    if dial_name == bytes_of("zoom"):
        return (1, MOST_ZOOM)
    if dial_name == bytes_of("light"):
        return (0, MOST_LIGHT)
    return (LEAST_VALUE, MOST_VALUE)


def can_become(number, least, most):
    """Whether some number from least to most begins with the digits of this one; none of the three is below 0."""
    # Digits behind a nought would make it a needless one.
    if number == 0:
        return least == 0
    low = number
    high = number
    while low <= most:
        if high >= least:
            return True
        low = low * 10
        high = high * 10 + 9
    return False


def read_digits(reader, least, most):
    """A number from least to most, neither of them below 0."""
    begin = reader.at
    number = 0
    while is_digit(reader.peek()):
        needless = number == 0 and reader.at > begin
        longer = number * 10 + reader.peek() - ord("0")
        if needless or not can_become(longer, least, most):
            raise NotASheet(reader.at)
        number = longer
        reader.advance()
    if reader.at == begin or number < least:
        raise NotASheet(reader.at)
    return number


def read_number(reader, least, most):
    """A number from least, which may be below 0, to most, which is not."""
    if least < 0 and reader.comes("-"):
        reader.advance()
        return -read_digits(reader, 1, -least)
    return read_digits(reader, max(least, 0), most)


def read_name(reader):
    part = []
    while is_name(part + [reader.peek()]):
        part.append(reader.peek())
        reader.advance()
    if not is_name(part):
        raise NotASheet(reader.at)
    return part


def read_dial_name(reader, used):
    part = []
    while begins_free_dial(part + [reader.peek()], used):
        part.append(reader.peek())
        reader.advance()
    if not is_dial_name(part) or tuple(part) in used:
        raise NotASheet(reader.at)
    return part


def read_ease(reader):
    for number, word in enumerate(EASES):
        # No two eases begin with the same byte.
        if reader.comes(word[0]):
            reader.take(word)
            return number
    raise NotASheet(reader.at)


def read_move(reader, earliest, frames, bounds):
    start = read_number(reader, earliest, frames - 2)
    reader.take("-")
    end = read_number(reader, start + 1, frames - 1)
    reader.take(":")
    target = read_number(reader, bounds[0], bounds[1])
    reader.take("/")
    return (start, end, target, read_ease(reader))


def read_moves(reader, frames, bounds):
    moves = []
    earliest = 0
    while reader.comes(" "):
        # Where no move has room any more, no sheet's text has the blank either.
        if len(moves) == MOST_MOVES or earliest > frames - 2:
            raise NotASheet(reader.at)
        reader.advance()
        move = read_move(reader, earliest, frames, bounds)
        moves.append(move)
        earliest = move[1]
    return moves


def read_dial(reader, frames, used):
    reader.take("dial ")
    name = read_dial_name(reader, used)
    bounds = least_and_most(name)
    reader.take(" ")
    first = read_number(reader, bounds[0], bounds[1])
    moves = read_moves(reader, frames, bounds)
    reader.take("\n")
    return Dial(name, first, moves)


def read_dials(reader, frames):
    dials = []
    used = {}
    while not reader.at_end():
        if len(dials) == MOST_DIALS:
            raise NotASheet(reader.at)
        dial = read_dial(reader, frames, used)
        dials.append(dial)
        used[tuple(dial.name)] = True
    return dials


def read_sheet(t):
    """The sheet that has this text; NotASheet with the text's fault if none has it."""
    reader = Reader(t)
    reader.take("camera ")
    name = read_name(reader)
    reader.take(" ")
    frames = read_number(reader, 1, MOST_FRAMES)
    reader.take(" ")
    width = read_number(reader, 1, LONGEST_SIDE)
    reader.take(" ")
    height = read_number(reader, 1, LONGEST_SIDE)
    reader.take("\n")
    return Sheet(name, frames, width, height, read_dials(reader, frames))


def read_text(t):
    """The sheet that has this text, whatever is handed over; TooLong comes before NotASheet."""
    if len(t) > LONGEST_TEXT:
        raise TooLong()
    return read_sheet(t)
