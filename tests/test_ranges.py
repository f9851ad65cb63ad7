"""range_of: a dial's least and greatest value, and the first frame that has it."""

import random
import unittest

from fieldsheets.field import range_of, value
from tests.helper import EASES, LONG, NO_DIALS, NO_SHEETS, RIGHT, TOO_LONG, data, made_sheet


def range_in(text, called):
    return range_of(data(text), data(called))


def with_moves(frames, first, moves):
    return "camera a %d 1 1\ndial x %d %s\n" % (frames, first, moves)


def range_by_values(text, called):
    """The range, from what value answers frame by frame."""
    found = [value(f, data(text), data(called))[0] for f in range(int(text.split(" ")[2]))]
    least, greatest = min(found), max(found)
    first_least = next(f for f, each in enumerate(found) if each == least)
    first_greatest = next(f for f, each in enumerate(found) if each == greatest)
    return [least, first_least, greatest, first_greatest]


class Ranges(unittest.TestCase):
    def test_a_dial_without_moves(self):
        for frames in (1, 2, 1024):
            for called, first in (("x", 5), ("y", -9999), ("zoom", 256), ("light", 0), ("a.x", -1), ("b.y", 9999)):
                text = "camera a %d 7 9\ndial %s %d\n" % (frames, called, first)
                self.assertEqual(range_in(text, called), [first, 0, first, 0])

    def test_moves_up_and_down(self):
        for moves, expected in (
                ("2-6:40/even", [0, 0, 40, 6]),
                ("2-6:-40/even", [-40, 6, 0, 0]),
                ("2-6:40/even 6-10:-10/even", [-10, 10, 40, 6]),
                ("2-6:-40/even 6-10:10/even", [-40, 6, 10, 10]),
                ("2-6:40/even 6-10:-10/even 12-14:60/even", [-10, 10, 60, 14]),
                ("2-6:40/even 6-10:-10/even 12-14:30/even 15-19:-20/even", [-20, 19, 40, 6]),
                ("2-6:40/even 6-10:10/even 12-14:30/even 15-19:5/even", [0, 0, 40, 6])):
            for ease in EASES:
                # All values lie so far apart that no ease is where it goes before its end.
                with self.subTest(moves=moves, ease=ease):
                    self.assertEqual(range_in(with_moves(20, 0, moves.replace("even", ease)), "x"), expected)

    def test_the_first_frame_of_those_that_have_it(self):
        for first, moves, expected in (
                (0, "2-6:40/even 8-12:0/even 12-16:40/even 16-19:0/even", [0, 0, 40, 6]),
                (40, "2-6:0/even 8-12:40/even 12-16:0/even 16-19:40/even", [0, 6, 40, 0]),
                (20, "2-6:40/even 6-8:0/even 9-12:40/even 13-16:0/even", [0, 8, 40, 6]),
                (20, "2-6:0/even 6-8:40/even 9-12:0/even 13-16:40/even", [0, 6, 40, 8]),
                (20, "0-19:20/both", [20, 0, 20, 0]),
                (-5, "0-3:-5/in 5-8:-6/even 9-19:-6/out", [-6, 7, -5, 0])):
            with self.subTest(moves=moves):
                self.assertEqual(range_in(with_moves(20, first, moves), "x"), expected)

    def test_rounding_is_there_before_the_move_ends(self):
        for first, moves, expected in (
                (0, "1-5:1/even", [0, 0, 1, 3]),
                (1, "1-5:0/even", [0, 4, 1, 0]),
                (0, "1-5:-1/even", [-1, 4, 0, 0]),
                (-1, "1-5:0/even", [-1, 0, 0, 3]),
                (0, "0-10:1/in", [0, 0, 1, 8]),
                (0, "0-10:1/out", [0, 0, 1, 3]),
                (0, "0-10:1/both", [0, 0, 1, 5]),
                (0, "0-10:-1/in", [-1, 8, 0, 0]),
                (0, "0-10:-1/out", [-1, 3, 0, 0]),
                (0, "0-10:-1/both", [-1, 6, 0, 0]),
                (0, "0-10:10/out", [0, 0, 10, 8])):
            with self.subTest(first=first, moves=moves):
                self.assertEqual(range_in(with_moves(12, first, moves), "x"), expected)

    def test_before_the_first_move_and_behind_the_last(self):
        self.assertEqual(range_in(with_moves(1024, 7, "1000-1010:9/even"), "x"), [7, 0, 9, 1008])
        self.assertEqual(range_in(with_moves(1024, 7, "0-1:-9/even"), "x"), [-9, 1, 7, 0])
        self.assertEqual(range_in(with_moves(1024, 7, "0-1:8/even"), "x"), [7, 0, 8, 1])

    def test_one_frame_and_the_most_frames(self):
        self.assertEqual(range_in("camera a 1 1 1\ndial x -3\n", "x"), [-3, 0, -3, 0])
        self.assertEqual(range_in("camera a 2 1 1\ndial x -3 0-1:-4/in\n", "x"), [-4, 1, -3, 0])
        for ease in EASES:
            # Out and both end so slowly that some steps before the last are there already.
            found = range_in("camera a 1024 1 1\ndial x -9999 0-1023:9999/%s\n" % ease, "x")
            self.assertEqual(found[:3], [-9999, 0, 9999])
        self.assertEqual(range_in("camera a 1024 1 1\ndial x -9999 0-1023:9999/even\n", "x"), [-9999, 0, 9999, 1023])
        self.assertEqual(range_in("camera a 1024 1 1\ndial x 9999 0-1023:-9999/in\n", "x"), [-9999, 1023, 9999, 0])
        self.assertEqual(range_in("camera a 1024 1 1\ndial x 0 1022-1023:1/in\n", "x"), [0, 0, 1, 1023])
        self.assertEqual(range_in("camera a 1024 1 1\ndial x 0 1022-1023:-1/in\n", "x"), [-1, 1023, 0, 0])

    def test_dials_that_are_not_on_the_sheet(self):
        for frames in (1, 3, 1024):
            for width, height in ((1, 256), (256, 1), (7, 9), (64, 32)):
                text = "camera a %d %d %d\ndial a.x 5\ndial %s.y 6\n" % (frames, width, height, LONG)
                for called, usual in (("x", width // 2), ("y", height // 2), ("zoom", 64), ("light", 64), ("a.y", 0),
                                      ("b.x", 0), ("x.x", 0), ("zoom.y", 0), (LONG + ".x", 0)):
                    self.assertEqual(range_in(text, called), [usual, 0, usual, 0])

    def test_each_dial_has_its_own(self):
        text = ("camera a 10 7 9\ndial y 1 0-9:2/even\ndial zoom 9 3-4:1/in\ndial light 64 1-2:0/out 5-6:64/in\n"
                "dial a.x -1 0-1:-2/even 1-2:-6/even\ndial a.y 3\n")
        for called, expected in (("x", [3, 0, 3, 0]), ("y", [1, 0, 2, 5]), ("zoom", [1, 4, 9, 0]),
                                 ("light", [0, 2, 64, 0]), ("a.x", [-6, 2, -1, 0]), ("a.y", [3, 0, 3, 0]),
                                 ("b.x", [0, 0, 0, 0])):
            with self.subTest(name=called):
                self.assertEqual(range_in(text, called), expected)

    def test_a_value_that_is_alike_to_a_refusal(self):
        for number in (-1, -2, -4, -6):
            text = "camera a 3 1 1\ndial x %d\n" % number
            self.assertEqual(range_in(text, "x"), [number, 0, number, 0])

    def test_the_most_dials_and_moves(self):
        moves = " ".join("%d-%d:%d/both" % (16 * k, 16 * k + 15, 9000 * (-1) ** k - k) for k in range(64))
        text = "camera a 1024 1 1\n" + "".join("dial %s%02d.y 0 %s\n" % (LONG[:-2], k, moves) for k in range(32))
        self.assertEqual(range_in(text, LONG[:-2] + "31.y"), [-9063, 1023, 9000, 15])

    def test_made_sheets(self):
        source = random.Random(7)
        compared = 0
        while compared < 60:
            text = made_sheet(source)
            # Each frame's value is read from the whole text.
            if len(text) * int(text.split(" ")[2]) > 20000:
                continue
            compared += 1
            for called in ["x", "b.y"] + [line.split(" ")[1] for line in text.splitlines()[1:]][:4]:
                self.assertEqual(range_in(text, called), range_by_values(text, called), (text, called))

    def test_made_moves(self):
        source = random.Random(8)
        for round_number in range(60):
            marks = sorted(source.sample(range(40), 2 * source.randint(1, 6)))
            moves = " ".join("%d-%d:%d/%s" % (start, end, source.randint(-3, 3), source.choice(EASES))
                             for start, end in zip(marks[::2], marks[1::2]))
            text = with_moves(source.randint(marks[-1] + 1, 45), source.randint(-3, 3), moves)
            self.assertEqual(range_in(text, "x"), range_by_values(text, "x"), text)

    def test_answers_are_lists_of_whole_numbers(self):
        for text in (RIGHT, "", "x" * 65537):
            for called in ("x", "light", "b.y", "b"):
                answer = range_in(text, called)
                self.assertIs(type(answer), list)
                self.assertIn([type(number) for number in answer], ([int], [int] * 4))


class Refusals(unittest.TestCase):
    def test_names_that_are_no_dials(self):
        for called in NO_DIALS:
            with self.subTest(name=called):
                self.assertEqual(range_in(RIGHT, called), [-1])

    def test_names_that_are_no_dials_come_first(self):
        for called in NO_DIALS:
            for text in NO_SHEETS + TOO_LONG:
                self.assertEqual(range_in(text, called), [-1])

    def test_too_long(self):
        for text in TOO_LONG:
            for called in ("x", "zoom", "b.x"):
                self.assertEqual(range_in(text, called), [-2])

    def test_no_sheet_and_no_fault_behind_it(self):
        for text in NO_SHEETS:
            for called in ("x", "zoom", "b.x"):
                self.assertEqual(range_in(text, called), [-6])

    def test_the_longest_text(self):
        # Of 65,536 bytes it's no sheet's text, of one more it's too long, whatever it is.
        self.assertEqual(range_in(RIGHT + "\n" * (65536 - len(RIGHT)), "x"), [-6])
        self.assertEqual(range_in(RIGHT + "\n" * (65537 - len(RIGHT)), "x"), [-2])


if __name__ == "__main__":
    unittest.main()
