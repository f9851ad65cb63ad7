"""shot: what the camera sees at a frame, of sheets that lie where their dials have them."""

import random
import unittest

from fieldsheets.field import see, shot, value
from tests.helper import (GREATEST, LONG, NO_SHEETS, RIGHT, TOO_LONG, data, made_paints, reference_seen,
                          reference_value, row_of_levels, row_of_named)

LINE = list(range(1, 10))


def seen(f, text, *sheets):
    """What is seen, without how many points there are."""
    answer = shot(f, data(text), row_of_named(sheets))
    width, height = (int(side) for side in text.splitlines()[0].split(" ")[3:])
    assert answer[0] == width * height == len(answer) - 1, answer
    return answer[1:]


class Shots(unittest.TestCase):
    def test_no_sheet(self):
        self.assertEqual(shot(0, data("camera a 1 3 2\n"), []), [6, 0, 0, 0, 0, 0, 0])
        self.assertEqual(shot(0, data("camera a 1 256 256\n"), []), [65536] + [0] * 65536)

    def test_one_sheet(self):
        t = data("camera a 1 4 2\n")
        self.assertEqual(shot(0, t, [1, 97, 4, 2, 1, 2, 3, 4, 5, 6, 7, 8]), [8, 1, 2, 3, 4, 5, 6, 7, 8])
        self.assertEqual(shot(0, t, [4] + data("hill") + [2, 1, 255, 9]), [8, 255, 9, 0, 0, 0, 0, 0, 0])

    def test_a_field_of_odd_sides(self):
        # The middle is rounded down, and just there lies the middle point.
        self.assertEqual(seen(0, "camera a 1 3 1\n", ("a", 3, 1, [1, 2, 3])), [1, 2, 3])
        self.assertEqual(seen(0, "camera a 1 1 3\n", ("a", 1, 3, [1, 2, 3])), [1, 2, 3])
        self.assertEqual(seen(0, "camera a 1 1 1\n", ("a", 1, 1, [1])), [1])

    def test_the_first_is_uppermost(self):
        upper, lower = ("a", 4, 1, [1, 0, 1, 0]), ("b", 4, 1, [2, 2, 0, 0])
        self.assertEqual(seen(0, "camera a 1 4 1\n", upper, lower), [1, 2, 1, 0])
        self.assertEqual(seen(0, "camera a 1 4 1\n", lower, upper), [2, 2, 1, 0])

    def test_eight_sheets(self):
        sheets = [("n%d" % k, 9, 1, [0] * k + [k + 1] * (9 - k)) for k in range(7, -1, -1)]
        self.assertEqual(seen(0, "camera a 1 9 1\n", *sheets), [1, 2, 3, 4, 5, 6, 7, 8, 8])

    def test_each_is_moved_by_its_names_dials(self):
        text = "camera a 5 5 3\ndial hill.x 1 0-4:-3/even\ndial hill.y 1\ndial tree.y 2 0-2:0/even\n"
        hill, tree, other = ("hill", 1, 1, [1]), ("tree", 2, 1, [2, 2]), ("other", 1, 1, [3])
        self.assertEqual(seen(0, text, hill), [0, 0, 0, 0, 0] + [0, 1, 0, 0, 0] + [0, 0, 0, 0, 0])
        self.assertEqual(seen(1, text, hill), [0, 0, 0, 0, 0] + [1, 0, 0, 0, 0] + [0, 0, 0, 0, 0])
        self.assertEqual(seen(2, text, hill), [0] * 15)
        self.assertEqual(seen(0, text, tree), [0, 0, 0, 0, 0] + [0, 0, 0, 0, 0] + [2, 2, 0, 0, 0])
        self.assertEqual(seen(1, text, tree), [0, 0, 0, 0, 0] + [2, 2, 0, 0, 0] + [0, 0, 0, 0, 0])
        self.assertEqual(seen(4, text, tree), [2, 2, 0, 0, 0] + [0, 0, 0, 0, 0] + [0, 0, 0, 0, 0])
        self.assertEqual(seen(1, text, hill, tree, other), [3, 0, 0, 0, 0] + [1, 2, 0, 0, 0] + [0, 0, 0, 0, 0])
        self.assertEqual(seen(1, text, tree, hill, other), [3, 0, 0, 0, 0] + [2, 2, 0, 0, 0] + [0, 0, 0, 0, 0])
        self.assertEqual(seen(4, text, other, tree, hill), [3, 2, 0, 0, 0] + [0, 0, 0, 0, 0] + [0, 0, 0, 0, 0])

    def test_dials_that_the_sheet_has_not(self):
        for dials in ("", "dial b.x 3\ndial b.y 4\n", "dial light 0\n", "dial ab.x 1\ndial %s.y 2\n" % LONG):
            text = "camera a 2 4 2\n" + dials
            for f in (0, 1):
                self.assertEqual(seen(f, text, ("a", 4, 2, LINE[:8])), LINE[:8])

    def test_one_of_a_levels_two_dials(self):
        self.assertEqual(seen(0, "camera a 1 3 2\ndial a.x 1\n", ("a", 1, 1, [7])), [0, 7, 0, 0, 0, 0])
        self.assertEqual(seen(0, "camera a 1 3 2\ndial a.y 1\n", ("a", 1, 1, [7])), [0, 0, 0, 7, 0, 0])

    def test_light_is_of_no_matter(self):
        for light in (0, 1, 64):
            text = "camera a 2 4 2\ndial light %d 0-1:%d/in\n" % (light, 64 - light)
            for f in (0, 1):
                self.assertEqual(seen(f, text, ("light", 4, 2, LINE[:8])), LINE[:8])

    def test_names_like_those_of_dials(self):
        text = "camera a 1 3 1\ndial x 1\ndial y.x 1\ndial zoom.x 2\ndial x.x -1\n"
        self.assertEqual(seen(0, text, ("y", 1, 1, [1]), ("zoom", 1, 1, [2])), [0, 1, 2])
        self.assertEqual(seen(0, text, ("x", 3, 1, [1, 2, 3])), [2, 3, 0])

    def test_long_names(self):
        text = "camera a 1 3 1\ndial %s.x 2\ndial %s.x 1\n" % (LONG, LONG[:-1])
        self.assertEqual(seen(0, text, (LONG, 1, 1, [1]), (LONG[:-1], 1, 1, [2])), [0, 2, 1])

    def test_two_sheets_of_one_name(self):
        text = "camera a 2 4 1\ndial a.x 1 0-1:2/even\n"
        one, two = ("a", 1, 1, [1]), ("a", 2, 1, [2, 2])
        self.assertEqual(seen(0, text, one, two), [0, 1, 2, 0])
        self.assertEqual(seen(0, text, two, one), [0, 2, 2, 0])
        self.assertEqual(seen(1, text, one, two), [0, 0, 1, 2])

    def test_the_dials_x_and_y(self):
        nine = ("a", 3, 3, LINE)
        text = "camera a 4 3 3\ndial x 1 0-3:4/even\ndial y 1 1-2:0/even\n"
        self.assertEqual(seen(0, text, nine), [1, 2, 3, 4, 5, 6, 7, 8, 9])
        self.assertEqual(seen(1, text, nine), [2, 3, 0, 5, 6, 0, 8, 9, 0])
        self.assertEqual(seen(2, text, nine), [0, 0, 0, 3, 0, 0, 6, 0, 0])
        self.assertEqual(seen(3, text, nine), [0] * 9)
        self.assertEqual(seen(0, "camera a 1 3 3\ndial y 2\n", nine), [4, 5, 6, 7, 8, 9, 0, 0, 0])
        self.assertEqual(seen(0, "camera a 1 3 3\ndial x 0\n", nine), [0, 1, 2, 0, 4, 5, 0, 7, 8])
        self.assertEqual(seen(0, "camera a 1 3 3\ndial x -9999\ndial y 9999\n", nine), [0] * 9)

    def test_a_field_that_moves_with_its_sheets(self):
        text = "camera a 1 3 3\ndial x -9998\ndial y 9998\ndial a.x -9999\ndial a.y 9997\n"
        self.assertEqual(seen(0, text, ("a", 3, 3, LINE)), LINE)

    def test_the_dial_zoom(self):
        line = ("a", 9, 1, LINE)
        text = "camera a 5 3 1\ndial x 4\ndial zoom 64 1-3:256/even 3-4:1/even\n"
        self.assertEqual(seen(0, text, line), [4, 5, 6])
        self.assertEqual(seen(1, text, line), [4, 5, 6])
        # 160, the half of the way: 2 and a half points on either side.
        self.assertEqual(seen(2, text, line), [2, 5, 7])
        self.assertEqual(seen(3, text, line), [1, 5, 9])
        self.assertEqual(seen(4, text, line), [4, 5, 5])
        self.assertEqual(seen(0, "camera a 1 3 1\ndial x 4\n", line), [4, 5, 6])
        self.assertEqual(seen(0, "camera a 1 1 3\ndial y 4\ndial zoom 128\n", ("a", 1, 9, LINE)), [3, 5, 7])

    def test_the_first_and_the_last_frame(self):
        text = "camera a 1024 3 1\ndial a.x -1 0-1:0/in 1022-1023:1/out\n"
        line = ("a", 3, 1, [1, 2, 3])
        for f, expected in ((0, [2, 3, 0]), (1, [1, 2, 3]), (1022, [1, 2, 3]), (1023, [0, 1, 2])):
            self.assertEqual(seen(f, text, line), expected)

    def test_made_sheets(self):
        source = random.Random(16)
        for round_number in range(150):
            text, sheets, f = made_shot(source)
            words = text.splitlines()[0].split(" ")
            levels = [(width, height, reference_value(text, called + ".x", f), reference_value(text, called + ".y", f),
                       paints) for called, width, height, paints in sheets]
            view = [reference_value(text, called, f) for called in ("x", "y", "zoom")] + [int(words[3]), int(words[4])]
            expected = reference_seen(levels, *view)
            answer = shot(f, data(text), row_of_named(sheets))
            self.assertEqual(answer, [len(expected)] + expected, (text, sheets, f))

    def test_as_see_sees_it(self):
        source = random.Random(17)
        for round_number in range(60):
            text, sheets, f = made_shot(source)
            t = data(text)

            def at_frame(called):
                return value(f, t, data(called))[0]

            levels = [(width, height, at_frame(called + ".x"), at_frame(called + ".y"), paints)
                      for called, width, height, paints in sheets]
            view = [at_frame("x"), at_frame("y"), at_frame("zoom")]
            width, height = (int(side) for side in text.splitlines()[0].split(" ")[3:])
            self.assertEqual(shot(f, t, row_of_named(sheets)), see(*view, width, height, row_of_levels(levels)))

    def test_as_much_as_may_be_handed_in(self):
        moves = " ".join("%d-%d:%d/both" % (16 * k, 16 * k + 15, k + 1) for k in range(64))
        names = [LONG[:-2] + "%02d" % k for k in range(16)]
        text = "camera %s 1024 256 256\n" % LONG
        text += "".join("dial %s.x 0 %s\ndial %s.y 0 %s\n" % (called, moves, called, moves) for called in names)
        sheets = [(called, 86, 86, [0] * 7396) for called in names[:7]] + [(names[15], 86, 86, [3] * 7396)]
        row = row_of_named(sheets)
        self.assertLessEqual(len(row), 60000)
        expected = [3 if 64 <= x < 150 and 64 <= y < 150 else 0 for y in range(256) for x in range(256)]
        self.assertEqual(shot(1023, data(text), row), [65536] + expected)

    def test_answers_are_lists_of_whole_numbers(self):
        for f in (0, 9, 10):
            answer = shot(f, data(RIGHT), row_of_named([("a", 2, 1, [1, 0])]))
            self.assertIs(type(answer), list)
            self.assertEqual({type(number) for number in answer}, {int})


def made_shot(source):
    """A sheet's text with small values, named sheets of which some have dials there, and a frame."""
    frames = source.randint(1, 20)
    text = "camera a %d %d %d\n" % (frames, source.randint(1, 12), source.randint(1, 12))
    names = ["x", "y", "zoom", "light", "a.x", "a.y", "b.x", "b.y", "x.x", "zoom.y", LONG + ".y"]
    for called in source.sample(names, source.randint(0, len(names))):
        text += "dial %s %d" % (called, small_value(source, called))
        start = source.randrange(frames)
        while start < frames - 1:
            end = source.randint(start + 1, frames - 1)
            text += " %d-%d:%d/%s" % (start, end, small_value(source, called),
                                      source.choice(("even", "in", "out", "both")))
            start = end + source.randint(0, 4)
        text += "\n"
    sheets = []
    for k in range(source.choice((0, 1, 2, 3, 8))):
        width, height = source.randint(1, 12), source.randint(1, 12)
        called = source.choice(("a", "a", "b", "c", "x", "zoom", LONG))
        sheets.append((called, width, height, made_paints(source, width * height)))
    return text, sheets, source.randrange(frames)


def small_value(source, called):
    least, most = {"zoom": (1, 256), "light": (0, 64)}.get(called, (-6, 12))
    return source.randint(least, most)


ROW = row_of_named([("hill", 2, 3, [0, 1, 2, 3, 4, 255]), ("a", 1, 1, [9])])
# How many bytes a row of ROW's first sheet alone has.
FIRST = 13
NO_NAMES = ([0], [17] + [97] * 17, [-1], [-1, 97], [-32768], [32767], [1, 48], [1, 65], [1, 46], [1, 0], [1, -1],
            [1, 97 + 256], [1, 97 - 256], [2, 57, 97], [2, 97, 65], [2, 97, 32], [2, 97, 46], [2, 97, 10], [2, 97, 353],
            [2, 97, 95], [2, 97, 96], [2, 97, 123], [2, 97, 47], [2, 97, 58], [3, 97, 46, 120], [16] + [97] * 15 + [45])
WRONG_ROWS = (
    [[1, 97, 1, 1, 5] * count for count in (9, 10, 12000)]
    + [begin + [1, 1, 5] for begin in NO_NAMES]
    + [ROW + begin + [1, 1, 5] for begin in NO_NAMES]
    + [[1, 97, wrong, other] + [0] * count for wrong in (0, -1, -2, 257, 32767, -32768) for other in (1, 2, -1)
       for count in (0, 1, 2, 257)]
    + [[1, 97, other, wrong] + [0] * count for wrong in (0, -1, -2, 257, 32767, -32768) for other in (1, 2, -1)
       for count in (0, 1, 2, 257)]
    + [[1, 97, 3, 1] + paints for wrong in (-1, 256, -32768, 32767)
       for paints in ([wrong, 0, 0], [0, wrong, 0], [0, 0, wrong])]
    + [ROW[:count] for count in range(1, len(ROW)) if count != FIRST]
    + [ROW + [number] for number in (-1, 0, 1, 4, 97)]
    + [[1, 97, 1, 1, 5] * 8 + [number] for number in (-1, 0, 1)]
    # A row of levels is none of named sheets.
    + [[1, 1, 0, 0, 5], [2, 2, -1, -1, 1, 2, 3, 4]]
)


class Refusals(unittest.TestCase):
    def test_rows_that_are_right(self):
        for row in (ROW, ROW[:FIRST], [], [1, 97, 1, 1, 0], [16] + data(LONG) + [1, 1, 255], [1, 97, 1, 1, 5] * 8,
                    [2, 122, 57, 256, 1] + [0] * 256, [2, 122, 57, 1, 256] + [0] * 256):
            with self.subTest(row=row[:40]):
                self.assertEqual(shot(0, data(RIGHT), row)[0], 63)

    def test_rows_that_are_wrong(self):
        for row in WRONG_ROWS:
            with self.subTest(row=row[:40], count=len(row)):
                self.assertEqual(shot(0, data(RIGHT), row), [-1])

    def test_every_byte_of_a_name(self):
        letters = data("abcdefghijklmnopqrstuvwxyz")
        digits = data("0123456789")
        t = data("camera a 1 1 1\n")
        for byte in range(-300, 600):
            self.assertEqual(shot(0, t, [1, byte, 1, 1, 7]), [1, 7] if byte in letters else [-1])
            self.assertEqual(shot(0, t, [2, 97, byte, 1, 1, 7]), [1, 7] if byte in letters + digits else [-1])

    def test_wrong_rows_as_long_as_may_be(self):
        for number in (-32768, -1, 0, 1, 2, 97, 256, 32767):
            self.assertEqual(shot(0, data(RIGHT), [number] * 60000), [-1])

    def test_too_long(self):
        for text in TOO_LONG:
            self.assertEqual(shot(0, data(text), ROW), [-2])
            self.assertEqual(shot(0, data(text), []), [-2])

    def test_no_sheet(self):
        for text in NO_SHEETS:
            self.assertEqual(shot(0, data(text), ROW), [-6])
            self.assertEqual(shot(0, data(text), []), [-6])

    def test_no_such_frame(self):
        for frames in (1, 2, 10, 1024):
            t = data("camera a %d 7 9\ndial x 5\n" % frames)
            for row in (ROW, []):
                self.assertEqual(shot(frames - 1, t, row)[0], 63)
                for f in (frames, frames + 1, 2000, GREATEST - 1, GREATEST):
                    self.assertEqual(shot(f, t, row), [-4])

    def test_a_wrong_row_comes_first(self):
        for row in WRONG_ROWS[::7] + [[0], ROW[:-1], ROW + [1]]:
            for text in NO_SHEETS + TOO_LONG + (RIGHT,):
                for f in (0, 10, GREATEST):
                    self.assertEqual(shot(f, data(text), row), [-1])

    def test_too_long_comes_before_no_such_frame(self):
        for text in TOO_LONG:
            for f in (10, GREATEST):
                self.assertEqual(shot(f, data(text), ROW), [-2])

    def test_no_sheet_comes_before_no_such_frame(self):
        for text in NO_SHEETS:
            for f in (10, GREATEST):
                self.assertEqual(shot(f, data(text), ROW), [-6])

    def test_too_long_comes_before_no_sheet(self):
        self.assertEqual(shot(0, data("\xff" * 65536), ROW), [-6])
        self.assertEqual(shot(0, data("\xff" * 65537), ROW), [-2])


if __name__ == "__main__":
    unittest.main()
