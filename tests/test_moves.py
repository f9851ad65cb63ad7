"""move: what a sheet tells of its dials' moves, by their numbers."""

import random
import re
import unittest

from fieldsheets.field import dial, move
from tests.helper import EASES, GREATEST, data, made_sheet

SEVERAL = (
    "camera pan2 100 64 32\n"
    "dial x 0 0-12:100/in 12-24:-100/out 30-47:5/both 50-99:-9999/even\n"
    "dial y 7\n"
    "dial zoom 64 4-5:1/even\n"
    "dial hill.x 0 " + " ".join("%d-%d:%d/%s" % (k, k + 1, -3 * k, EASES[k % 4]) for k in range(64)) + "\n"
    "dial light 64 0-99:0/both\n"
)
COUNTS = (4, 0, 1, 64, 1)
NONE = "camera pan2 100 64 32\n"
MOVE = re.compile(r"(\d+)-(\d+):(-?\d+)/([a-z]+)")


class Moves(unittest.TestCase):
    def test_moves_by_their_numbers(self):
        t = data(SEVERAL)
        self.assertEqual(move(0, 0, t), [0, 12, 100, 1])
        self.assertEqual(move(0, 1, t), [12, 24, -100, 2])
        self.assertEqual(move(0, 2, t), [30, 47, 5, 3])
        self.assertEqual(move(0, 3, t), [50, 99, -9999, 0])
        self.assertEqual(move(2, 0, t), [4, 5, 1, 0])
        self.assertEqual(move(4, 0, t), [0, 99, 0, 3])

    def test_arguments_go_by_their_names(self):
        self.assertEqual(move(t=data(SEVERAL), i=3, k=0), [50, 99, -9999, 0])
        self.assertEqual(move(t=data(SEVERAL), i=0, k=4), [0, 99, 0, 3])

    def test_the_most_moves(self):
        t = data(SEVERAL)
        for i in range(64):
            self.assertEqual(move(3, i, t), [i, i + 1, -3 * i, i % 4])

    def test_eases(self):
        for number, ease in enumerate(EASES):
            self.assertEqual(move(0, 0, data("camera a 9 1 1\ndial x 0 3-8:1/%s\n" % ease)), [3, 8, 1, number])

    def test_edges_of_frames_and_values(self):
        for called, values in (("x", (-9999, -1, 0, 9999)), ("zoom", (1, 256)), ("light", (0, 64)),
                               ("a.y", (-9999, 0, 9999))):
            for target in values:
                for start, end in ((0, 1), (0, 1023), (1022, 1023), (99, 100)):
                    t = data("camera a 1024 1 1\ndial %s 1 %d-%d:%d/out\n" % (called, start, end, target))
                    self.assertEqual(move(0, 0, t), [start, end, target, 2])

    def test_made_sheets(self):
        source = random.Random(3)
        for round_number in range(60):
            text = made_sheet(source)
            t = data(text)
            lines = text.splitlines()[1:]
            for k, line in enumerate(lines):
                moves = [MOVE.match(item).groups() for item in line.split(" ")[3:]]
                for i in sorted({0, 1, len(moves) // 2, len(moves) - 1} & set(range(len(moves)))):
                    start, end, target, ease = moves[i]
                    expected = [int(start), int(end), int(target), EASES.index(ease)]
                    self.assertEqual(move(k, i, t), expected, text)
                self.assertEqual(move(k, len(moves), t), [-4])
            self.assertEqual(move(len(lines), 0, t), [-4])

    def test_answers_are_lists_of_whole_numbers(self):
        for text in (SEVERAL, NONE, "", "x" * 65537):
            answer = move(0, 0, data(text))
            self.assertIs(type(answer), list)
            for number in answer:
                self.assertIs(type(number), int)


class Refusals(unittest.TestCase):
    def test_no_such_move(self):
        t = data(SEVERAL)
        for k, count in enumerate(COUNTS):
            self.assertEqual(dial(k, t)[1], count)
            for i in (count, count + 1, 64, 65, GREATEST - 1, GREATEST):
                with self.subTest(k=k, i=i):
                    self.assertEqual(move(k, i, t), [-4])

    def test_no_such_dial(self):
        for text, count in ((SEVERAL, len(COUNTS)), (NONE, 0)):
            for k in (count, count + 1, GREATEST - 1, GREATEST):
                for i in (0, 1, 64, GREATEST):
                    self.assertEqual(move(k, i, data(text)), [-4])

    def test_no_sheet_whatever_k_and_i_are(self):
        for text in ("", "camera", SEVERAL[:-1], SEVERAL + "d", SEVERAL + "dial x 0\n", NONE + "\n", "\xff",
                     "camera a 9 1 1\ndial x 0 0-9:1/in\n", "x" * 65536):
            for k in (0, 1, len(COUNTS), GREATEST):
                for i in (0, 4, GREATEST):
                    self.assertEqual(move(k, i, data(text)), [-6])

    def test_too_long_whatever_it_is(self):
        for text in ("", NONE, SEVERAL):
            for length in (65537, 66000):
                t = data(text + "\n" * (length - len(text)))
                for k, i in ((0, 0), (1, 0), (0, 4), (len(COUNTS), 0), (GREATEST, GREATEST)):
                    self.assertEqual(move(k, i, t), [-2])


if __name__ == "__main__":
    unittest.main()
