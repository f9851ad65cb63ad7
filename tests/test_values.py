"""value: what a dial is at a frame (F3), and how it is eased (F2)."""

import random
import unittest

from fieldsheets.field import value
from tests.helper import (BACKWARDS, EASES, GREATEST, LONG, NO_DIALS, NO_SHEETS, RIGHT, TOO_LONG, data, made_sheet,
                          reference_eased, reference_value)


def values(text, called, frames):
    t = data(text)
    s = data(called)
    answers = [value(f, t, s) for f in frames]
    assert all(len(answer) == 1 for answer in answers), answers
    return [answer[0] for answer in answers]


def one_move(a, b, n, ease):
    """The values at all steps of a move from a to b."""
    text = "camera a %d 1 1\ndial x %d 0-%d:%d/%s\n" % (n + 1, a, n, b, ease)
    return values(text, "x", range(n + 1))


class Steps(unittest.TestCase):
    """Each ease, worked out by hand: ten up or down, in four steps."""

    def test_even(self):
        self.assertEqual(one_move(0, 10, 4, "even"), [0, 3, 5, 8, 10])
        self.assertEqual(one_move(10, 0, 4, "even"), [10, 8, 5, 3, 0])
        self.assertEqual(one_move(0, -10, 4, "even"), [0, -2, -5, -7, -10])
        self.assertEqual(one_move(-10, 0, 4, "even"), [-10, -7, -5, -2, 0])
        self.assertEqual(one_move(-5, 5, 4, "even"), [-5, -2, 0, 3, 5])

    def test_in(self):
        self.assertEqual(one_move(0, 10, 4, "in"), [0, 1, 3, 6, 10])
        self.assertEqual(one_move(10, 0, 4, "in"), [10, 9, 8, 4, 0])
        self.assertEqual(one_move(0, -10, 4, "in"), [0, -1, -2, -6, -10])
        self.assertEqual(one_move(-10, 0, 4, "in"), [-10, -9, -7, -4, 0])

    def test_out(self):
        self.assertEqual(one_move(0, 10, 4, "out"), [0, 4, 8, 9, 10])
        self.assertEqual(one_move(10, 0, 4, "out"), [10, 6, 3, 1, 0])
        self.assertEqual(one_move(0, -10, 4, "out"), [0, -4, -7, -9, -10])
        self.assertEqual(one_move(-10, 0, 4, "out"), [-10, -6, -2, -1, 0])

    def test_both(self):
        self.assertEqual(one_move(0, 10, 4, "both"), [0, 2, 5, 8, 10])
        self.assertEqual(one_move(10, 0, 4, "both"), [10, 8, 5, 2, 0])
        self.assertEqual(one_move(0, -10, 4, "both"), [0, -2, -5, -8, -10])
        self.assertEqual(one_move(-10, 0, 4, "both"), [-10, -8, -5, -2, 0])

    def test_halves_go_to_the_greater_number(self):
        for ease in ("even", "both"):
            for a, b, half in ((0, 1, 1), (1, 0, 1), (0, -1, 0), (-1, 0, 0), (-1, -2, -1), (-2, -1, -1), (-3, 0, -1),
                               (0, -3, -1), (-8, -5, -6), (-9999, 9998, 0), (9998, -9999, 0)):
                self.assertEqual(one_move(a, b, 2, ease), [a, half, b], (ease, a, b))
        for a, b, half in ((0, 2, 1), (2, 0, 2), (0, -2, 0), (-2, 0, -1), (0, -6, -1), (-6, 0, -4)):
            self.assertEqual(one_move(a, b, 2, "in")[1], half, (a, b))
        for a, b, half in ((0, 2, 2), (2, 0, 1), (0, -2, -1), (-2, 0, 0), (0, -6, -4), (-6, 0, -1)):
            self.assertEqual(one_move(a, b, 2, "out")[1], half, (a, b))

    def test_one_step(self):
        for ease in EASES:
            self.assertEqual(one_move(-9999, 9999, 1, ease), [-9999, 9999])

    def test_a_move_to_where_it_is(self):
        for ease in EASES:
            self.assertEqual(one_move(-7, -7, 5, ease), [-7] * 6)


class Eased(unittest.TestCase):
    """F2: A first, B last, always between, never back; and the same from B to A, backwards."""

    WAYS = ((0, 1), (0, -1), (-9999, 9999), (9999, -9999), (-3, 4), (5, -6), (-9999, -9998), (1, 256), (64, 0))

    def test_from_a_to_b(self):
        for ease in EASES:
            for n in (1, 2, 3, 5, 8, 100, 1023):
                for a, b in self.WAYS:
                    found = one_move(a, b, n, ease)
                    self.assertEqual((found[0], found[-1]), (a, b))
                    self.assertEqual(found, sorted(found, reverse=b < a), (ease, n, a, b))

    def test_backwards(self):
        for ease in EASES:
            for n in (1, 2, 3, 5, 8, 100):
                for a, b in self.WAYS:
                    back = one_move(b, a, n, BACKWARDS[ease])
                    self.assertEqual(one_move(a, b, n, ease), back[::-1], (ease, n, a, b))

    def test_against_the_reference(self):
        for ease in EASES:
            for n in (1, 2, 3, 4, 6, 7, 10, 64, 1023):
                for a, b in self.WAYS:
                    expected = [reference_eased(ease, n, i, a, b) for i in range(n + 1)]
                    self.assertEqual(one_move(a, b, n, ease), expected, (ease, n, a, b))


class Values(unittest.TestCase):
    """F3: a value holds till a move begins and behind where it ends."""

    TEXT = (
        "camera pan 30 64 32\n"
        "dial y 5\n"
        "dial x -3 4-8:7/even 8-10:-1/in 20-22:3/out\n"
        "dial zoom 256 0-29:1/both\n"
        "dial hill.x 0 28-29:-50/in\n"
    )

    def test_frame_by_frame(self):
        expected = [-3] * 4 + [-3, 0, 2, 5, 7, 5] + [-1] * 10 + [-1, 2] + [3] * 8
        self.assertEqual(values(self.TEXT, "x", range(30)), expected)

    def test_before_at_within_and_behind_a_move(self):
        for f, expected in ((0, -3), (3, -3), (4, -3), (6, 2), (8, 7), (9, 5), (10, -1), (11, -1), (19, -1), (20, -1),
                            (21, 2), (22, 3), (23, 3), (29, 3)):
            with self.subTest(f=f):
                self.assertEqual(value(f, data(self.TEXT), data("x")), [expected])

    def test_a_dial_without_moves(self):
        self.assertEqual(values(self.TEXT, "y", range(30)), [5] * 30)

    def test_a_move_to_the_last_frame(self):
        self.assertEqual(values(self.TEXT, "zoom", (0, 29)), [256, 1])
        self.assertEqual(values(self.TEXT, "hill.x", (27, 28, 29)), [0, 0, -50])

    def test_each_move_begins_where_the_dial_is(self):
        text = "camera a 9 1 1\ndial x 100 0-2:0/even 2-4:50/even 6-8:-50/even\n"
        self.assertEqual(values(text, "x", range(9)), [100, 50, 0, 25, 50, 50, 50, 0, -50])

    def test_the_most_moves(self):
        moves = " ".join("%d-%d:%d/even" % (2 * k, 2 * k + 2, 10 * (k + 1)) for k in range(64))
        text = "camera a 1024 1 1\ndial a.x 0 %s\n" % moves
        expected = [5 * f for f in range(129)] + [640] * 20
        self.assertEqual(values(text, "a.x", range(149)), expected)
        self.assertEqual(values(text, "a.x", (1023,)), [640])

    def test_no_move_changes_what_was_before_it(self):
        source = random.Random(4)
        for round_number in range(60):
            moves = made_moves(source)
            start = moves[-1][0]
            without = values(with_moves(moves[:-1]), "x", range(start + 1))
            for k in range(3):
                other = (start, source.randint(start + 1, 99), source.randint(-99, 99), source.choice(EASES))
                self.assertEqual(values(with_moves(moves[:-1] + [other]), "x", range(start + 1)), without, moves)

    def test_it_holds_but_within_moves(self):
        source = random.Random(5)
        for round_number in range(60):
            moves = made_moves(source)
            found = values(with_moves(moves), "x", range(100))
            held = 12
            earliest = 0
            for start, end, target, ease in moves:
                self.assertEqual(found[earliest:start + 1], [held] * (start + 1 - earliest), moves)
                held = target
                earliest = end
            self.assertEqual(found[earliest:], [held] * (100 - earliest), moves)

    def test_made_sheets(self):
        source = random.Random(6)
        for round_number in range(150):
            text = made_sheet(source)
            frames = int(text.split(" ")[2])
            names = ["x", "y", "zoom", "light", "x.x", "b.y"]
            names += [line.split(" ")[1] for line in text.splitlines()[1:]][:4]
            for called in names:
                for f in {0, frames - 1, source.randrange(frames), source.randrange(min(frames, 20))}:
                    expected = [reference_value(text, called, f)]
                    self.assertEqual(value(f, data(text), data(called)), expected, (text, called, f))

    def test_answers_are_lists_of_whole_numbers(self):
        for text in (self.TEXT, "", "x" * 65537):
            for called in ("x", "light", "b.y", "b"):
                for f in (0, 5, 30):
                    answer = value(f, data(text), data(called))
                    self.assertIs(type(answer), list)
                    self.assertEqual([type(number) for number in answer], [int])


def made_moves(source):
    marks = sorted(source.sample(range(100), 2 * source.randint(1, 6)))
    return [(marks[k], marks[k + 1], source.randint(-99, 99), source.choice(EASES)) for k in range(0, len(marks), 2)]


def with_moves(moves):
    return "camera a 100 1 1\ndial x 12%s\n" % "".join(" %d-%d:%d/%s" % move for move in moves)


class NotOnTheSheet(unittest.TestCase):
    def test_the_middle_of_the_field(self):
        for side, half in ((1, 0), (2, 1), (3, 1), (4, 2), (63, 31), (64, 32), (255, 127), (256, 128)):
            self.assertEqual(values("camera a 3 %d 100\n" % side, "x", range(3)), [half] * 3)
            self.assertEqual(values("camera a 3 100 %d\n" % side, "y", range(3)), [half] * 3)

    def test_zoom_and_light(self):
        for called in ("zoom", "light"):
            self.assertEqual(values("camera a 3 7 9\n", called, range(3)), [64] * 3)

    def test_levels(self):
        for called in ("a.x", "a.y", "x.x", "y.y", "zoom.y", "light.x", LONG + ".x", LONG + ".y"):
            self.assertEqual(values("camera a 3 7 9\n", called, range(3)), [0] * 3)

    def test_other_dials_are_of_no_matter(self):
        text = "camera a 3 7 9\ndial x.x 5 0-2:6/in\ndial zoom.x 8\ndial %s.x 9\n" % LONG
        for called, expected in (("x", 3), ("y", 4), ("zoom", 64), ("light", 64), ("x.y", 0), ("zoom.y", 0),
                                 (LONG + ".y", 0), (LONG[:-1] + ".x", 0), ("y.x", 0)):
            self.assertEqual(values(text, called, range(3)), [expected] * 3)
        for called, expected in (("x.x", [5, 5, 6]), ("zoom.x", [8] * 3), (LONG + ".x", [9] * 3)):
            self.assertEqual(values(text, called, range(3)), expected)

    def test_a_dial_on_the_sheet_is_not_usual(self):
        text = "camera a 3 7 9\ndial x 0\ndial y 0\ndial zoom 1\ndial light 0\n"
        for called, expected in (("x", 0), ("y", 0), ("zoom", 1), ("light", 0)):
            self.assertEqual(values(text, called, range(3)), [expected] * 3)


class Refusals(unittest.TestCase):
    def test_names_that_are_no_dials(self):
        for called in NO_DIALS:
            with self.subTest(name=called):
                self.assertEqual(value(0, data(RIGHT), data(called)), [-1])

    def test_every_name_of_one_byte(self):
        for byte in range(256):
            expected = {120: [5], 121: [4]}.get(byte, [-1])
            self.assertEqual(value(0, data(RIGHT), [byte]), expected)

    def test_every_byte_of_a_name(self):
        letters = data("abcdefghijklmnopqrstuvwxyz")
        digits = data("0123456789")
        t = data("camera a 1 1 1\n")
        for byte in range(256):
            self.assertEqual(value(0, t, [byte] + data(".x")), [0 if byte in letters else -1])
            self.assertEqual(value(0, t, data("a") + [byte] + data(".y")), [0 if byte in letters + digits else -1])
            self.assertEqual(value(0, t, data("a") + [byte] + data("x")), [0 if byte == ord(".") else -1])
            self.assertEqual(value(0, t, data("a.") + [byte]), [0 if byte in data("xy") else -1])

    def test_names_that_are_dials(self):
        for called in ("x", "y", "zoom", "light", "x.x", "zoom.y", "light.x", "a.x", "z.y", "a9.x", LONG + ".y"):
            self.assertNotEqual(value(0, data(RIGHT), data(called)), [-1])

    def test_no_such_frame(self):
        for frames in (1, 2, 10, 1024):
            t = data("camera a %d 7 9\ndial x 5\n" % frames)
            for called, expected in (("x", 5), ("y", 4), ("zoom", 64), ("a.x", 0)):
                self.assertEqual(value(frames - 1, t, data(called)), [expected])
                for f in (frames, frames + 1, 2000, GREATEST - 1, GREATEST):
                    self.assertEqual(value(f, t, data(called)), [-4])

    def test_no_sheet(self):
        for text in NO_SHEETS:
            for f in (0, 9, 10, GREATEST):
                for called in ("x", "y", "b.x"):
                    self.assertEqual(value(f, data(text), data(called)), [-6])

    def test_too_long(self):
        for text in TOO_LONG:
            for f in (0, 9, 10, GREATEST):
                for called in ("x", "y", "b.x"):
                    self.assertEqual(value(f, data(text), data(called)), [-2])

    def test_no_dials_name_comes_first(self):
        for called in ("", ".x", "hill", LONG + "6.x", "x "):
            for text in NO_SHEETS + TOO_LONG + (RIGHT,):
                for f in (0, 10, GREATEST):
                    self.assertEqual(value(f, data(text), data(called)), [-1])


if __name__ == "__main__":
    unittest.main()
