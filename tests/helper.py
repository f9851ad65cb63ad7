"""What the tests share: texts as lists of bytes, right and wrong ones, faults marked in a text, made sheets, rows of
levels, and second ways to find faults, values and what is seen."""

import fractions
import functools
import math
import re
import string
import unittest

from fieldsheets.field import judge, sizes

NAME = re.compile(r"[a-z][a-z0-9]{0,15}\Z")
NAME_SIGNS = string.ascii_lowercase + string.digits
EASES = ("even", "in", "out", "both")
BACKWARDS = {"even": "even", "in": "out", "out": "in", "both": "both"}
LONG = "abcdefghij012345"
# The greatest number that may be handed over where one from 0 on is asked.
GREATEST = 18446744073709551615
# The least and the greatest where one below 0 may be handed over.
LEAST_GIVEN = -9223372036854775808
MOST_GIVEN = 9223372036854775807

RIGHT = "camera a 10 7 9\ndial x 5 0-9:6/in\ndial a.x 1\n"
NO_SHEETS = ("", "camera", RIGHT[:-1], RIGHT + "dial x 0\n", RIGHT + "\n", "\xff", "x" * 65536)
TOO_LONG = tuple(text + "\n" * (length - len(text)) for text in ("", RIGHT) for length in (65537, 66000))
NO_DIALS = (
    "", ".", ".x", ".y", "a", "hill", "camera", "dial", "zoo", "zooms", "xx", "xy", LONG, LONG + "6.x", LONG + "6.y",
    "X", "Y", "Zoom", "LIGHT", "A.x", "a.X", "aB.y", "9.x", "9a.y", "0", "x.", "a.", "a.z", "a.light", "a.xx", "a..x",
    "a.x.y", "x ", " x", "x\n", "x\0", "\0", "zoom ", "light\n", "a.x ", "a.x\n", "a.x5", " a.x", "a x", "a-b.x",
    "a_b.x", "\xe4.x", "{.x", "`.x", "a/.x", "a:.x", "\xff", "x" * 100, "a" * 98 + ".x", "\0" * 100,
)


def data(text):
    return list(text.encode("latin-1"))


def split_mark(marked):
    """The text without its mark |, and the fault: how many bytes stand before the mark."""
    fault = marked.index("|")
    return data(marked[:fault] + marked[fault + 1:]), fault


class SheetCase(unittest.TestCase):
    def right(self, *texts):
        for text in texts:
            with self.subTest(text=text):
                self.assertEqual(judge(data(text)), [0])
                self.assertEqual(sizes(data(text))[-1], text.count("\n") - 1)

    def wrong(self, *marked_texts):
        for marked in marked_texts:
            with self.subTest(text=marked):
                t, fault = split_mark(marked)
                self.assertEqual(judge(t), [-6, fault])
                self.assertEqual(sizes(t), [-6])


def write(sheet):
    """The text of a sheet as the document words it."""
    text = "camera %s %d %d %d\n" % (word(sheet.name), sheet.frames, sheet.width, sheet.height)
    for dial in sheet.dials:
        text += "dial %s %d" % (word(dial.name), dial.first)
        for start, end, target, ease in dial.moves:
            text += " %d-%d:%d/%s" % (start, end, target, EASES[ease])
        text += "\n"
    return text


def word(numbers):
    return bytes(numbers).decode("latin-1")


def reference_fault(t):
    """The fault of t, None if it's a sheet's text.

    Found otherwise than by the program: all that may stand next, each with the sign that ends it, is listed, and the
    longest beginning that the text shares with one of these is the fault's.
    """
    walk = Walk(word(t))
    try:
        walk.sheet()
    except Stop as stop:
        return stop.fault
    return None


class Stop(Exception):
    def __init__(self, fault):
        super().__init__(fault)
        self.fault = fault


class Walk:
    def __init__(self, text):
        self.text = text
        self.at = 0

    def choose(self, options):
        rest = self.text[self.at:self.at + 40]
        longest = 0
        while longest < len(rest) and rest[:longest + 1] in options.beginnings:
            longest += 1
        self.at += longest
        if rest[:longest] not in options.wholes:
            raise Stop(self.at)
        return rest[:longest]

    def number(self, least, most, ends):
        found = self.choose(numbers(least, most, ends))
        return int(found[:-1]), found[-1]

    def sheet(self):
        self.choose(options(("camera ",)))
        self.choose(sheet_names(self.text[self.at:self.at + 17]))
        frames = self.number(1, 1024, " ")[0]
        self.number(1, 256, " ")
        self.number(1, 256, "\n")
        used = ()
        while self.at < len(self.text):
            if len(used) == 32:
                raise Stop(self.at)
            used += (self.dial(frames, used),)

    def dial(self, frames, used):
        self.choose(options(("dial ",)))
        name = self.choose(dial_names(self.text[self.at:self.at + 19], used))[:-1]
        least, most = {"zoom": (1, 256), "light": (0, 64)}.get(name, (-9999, 9999))
        earliest = 0
        count = 0
        sign = self.number(least, most, ends_of_item(count, earliest, frames))[1]
        while sign == " ":
            start = self.number(earliest, frames - 2, "-")[0]
            earliest = self.number(start + 1, frames - 1, ":")[0]
            self.number(least, most, "/")
            count += 1
            ends = ends_of_item(count, earliest, frames)
            sign = self.choose(options(tuple(ease + end for ease in EASES for end in ends)))[-1]
        return name


class Options:
    def __init__(self, wholes):
        self.wholes = frozenset(wholes)
        self.beginnings = frozenset(whole[:k] for whole in wholes for k in range(len(whole) + 1))


@functools.lru_cache(maxsize=None)
def options(wholes):
    return Options(wholes)


@functools.lru_cache(maxsize=None)
def numbers(least, most, ends):
    return Options([str(number) + end for number in range(least, most + 1) for end in ends])


@functools.lru_cache(maxsize=2048)
def sheet_names(rest):
    return Options([name + " " for name in names_near(rest)])


@functools.lru_cache(maxsize=2048)
def dial_names(rest, used):
    every = ["x", "y", "zoom", "light"]
    every += [name + ending for name in names_near(rest) for ending in (".x", ".y")]
    return Options([name + " " for name in every if name not in used])


def names_near(rest):
    """Of the names that share the longest beginnings with rest, so many that some dials of theirs are free."""
    longest = max((k for k in range(17) if NAME.match(rest[:k])), default=0)
    near = []
    for k in (longest - 1, longest):
        if k >= 0:
            near += [rest[:k]] + [rest[:k] + sign for sign in NAME_SIGNS]
    return [name for name in near if NAME.match(name)]


def ends_of_item(count, earliest, frames):
    return " \n" if count < 64 and earliest + 1 <= frames - 1 else "\n"


def made_sheet(source):
    """The text of some sheet, as the source of chance has it."""
    frames = source.choice((1, 2, 3, 10, 11, 100, 1000, 1024, source.randint(1, 1024)))
    text = "camera %s %d %d %d\n" % (made_name(source), frames, source.randint(1, 256), source.randint(1, 256))
    names = ["x", "y", "zoom", "light", "x.x", "zoom.y"] + [made_name(source) + source.choice((".x", ".y"))
                                                           for k in range(source.choice((0, 2, 26)))]
    names = source.sample(sorted(set(names)), source.randint(0, len(set(names))))
    for name in names:
        text += "dial " + name + " " + made_value(source, name) + made_moves(source, name, frames) + "\n"
    return text


def made_name(source):
    length = source.choice((1, 2, 15, 16))
    return source.choice("abxyz") + "".join(source.choice("az09") for k in range(length - 1))


def made_value(source, name):
    least, most = {"zoom": (1, 256), "light": (0, 64)}.get(name, (-9999, 9999))
    return str(source.choice((least, most, source.randint(least, most))))


def made_moves(source, name, frames):
    text = ""
    earliest = 0
    for k in range(source.choice((0, 1, 3, 64))):
        if earliest > frames - 2:
            break
        start = min(frames - 2, earliest + source.choice((0, 0, 1, 5)))
        earliest = min(frames - 1, start + source.choice((1, 2, 12)))
        ease = source.choice(("even", "in", "out", "both"))
        text += " %d-%d:%s/%s" % (start, earliest, made_value(source, name), ease)
    return text


def reference_eased(ease, n, i, a, b):
    """Eased by a fraction of the way, and the nearest whole number looked for among those about it."""
    gone = fractions.Fraction(i, n)
    gone = {"even": gone, "in": gone ** 2, "out": 1 - (1 - gone) ** 2, "both": gone ** 2 * (3 - 2 * gone)}[ease]
    exact = gone * (b - a)
    about = [int(exact) + k for k in range(-2, 3)]
    return a + min(about, key=lambda whole: (abs(whole - exact), -whole))


def reference_value(text, called, f):
    """The value, from the text's lines; the moves are gone through from the last one back."""
    head, *lines = text.splitlines()
    words = [line.split(" ") for line in lines if line.split(" ")[1] == called]
    if not words:
        width, height = head.split(" ")[3:]
        usual = {"x": int(width) // 2, "y": int(height) // 2, "zoom": 64, "light": 64}
        return usual.get(called, 0)
    held = [int(words[0][2])]
    moves = []
    for item in words[0][3:]:
        span, rest = item.split(":")
        start, end = span.split("-")
        target, ease = rest.split("/")
        moves.append((int(start), int(end), held[-1], int(target), ease))
        held.append(int(target))
    for start, end, before, target, ease in reversed(moves):
        if f >= end:
            return target
        if f >= start:
            return reference_eased(ease, end - start, f - start, before, target)
    return held[0]


def row_of_levels(levels):
    """The row of levels that are told as W, H, dx, dy and a list of paints."""
    return [number for level in levels for number in list(level[:4]) + list(level[4])]


def row_of_named(sheets):
    """The row of named sheets that are told as a name, W, H and a list of paints."""
    return [number for called, width, height, paints in sheets
            for number in [len(called)] + data(called) + [width, height] + list(paints)]


def made_paints(source, count):
    """Paints of which about every other is clear."""
    return [source.choice((0, source.randint(1, 255))) for k in range(count)]


def reference_seen(levels, cx, cy, zoom, width, height):
    """What is seen, from a table that is painted from the lowest level up, with fractions of points."""
    table = {}
    for wide, high, dx, dy, paints in reversed(levels):
        for number, paint in enumerate(paints):
            if paint:
                table[dx + number % wide, dy + number // wide] = paint
    step = fractions.Fraction(zoom, 64)
    half = fractions.Fraction(1, 2)
    across = [cx + math.floor((x + half - fractions.Fraction(width, 2)) * step) for x in range(width)]
    down = [cy + math.floor((y + half - fractions.Fraction(height, 2)) * step) for y in range(height)]
    return [table.get((u, v), 0) for v in down for u in across]
