"""name and dial: what a sheet tells of its dials, by their numbers."""

import random
import unittest

from fieldsheets.field import dial, name, sizes
from tests.helper import GREATEST, LONG, data, made_sheet

DIALS = (
    ("x", "-7", 0),
    ("zoom", "256 0-1:1/even", 1),
    ("y", "0 3-9:-5/in 9-20:4/out", 2),
    ("light", "64", 0),
    (LONG + ".x", "9999", 0),
    ("a.y", "-9999 " + " ".join("%d-%d:%d/both" % (k, k + 1, k) for k in range(64)), 64),
    (LONG + ".y", "12 0-65:1/even", 1),
    ("a.x", "0 " + " ".join("%d-%d:0/out" % (k, k + 1) for k in range(63)), 63),
    ("zoom.x", "-1", 0),
    ("b9.y", "1", 0),
)
SEVERAL = "camera pan2 66 64 32\n" + "".join("dial %s %s\n" % (called, rest) for called, rest, count in DIALS)
NONE = "camera pan2 66 64 32\n"


def as_bytes(text):
    return [len(text)] + data(text)


class Dials(unittest.TestCase):
    def test_each_dial_by_its_number(self):
        t = data(SEVERAL)
        for k, (called, rest, count) in enumerate(DIALS):
            with self.subTest(dial=called):
                self.assertEqual(name(k, t), as_bytes(called))
                self.assertEqual(dial(k, t), [int(rest.split()[0]), count])

    def test_names(self):
        self.assertEqual(name(0, data("camera a 1 1 1\ndial x 3\n")), [1, 120])
        self.assertEqual(name(0, data("camera a 1 1 1\ndial zoom 3\n")), [4, 122, 111, 111, 109])
        for called in ("x", "y", "zoom", "light", "a.x", "z.y", "x.x", "light.y", "a0.x", LONG + ".x", LONG + ".y"):
            with self.subTest(name=called):
                self.assertEqual(name(0, data("camera a 1 1 1\ndial %s 3\n" % called)), as_bytes(called))
                self.assertEqual(name(1, data("camera a 1 1 1\ndial b.x 1\ndial %s 3\n" % called)), as_bytes(called))

    def test_first_values(self):
        for called, values in (("x", (-9999, -10, -1, 0, 1, 10, 9999)), ("y", (-9999, 0, 9999)),
                               ("zoom", (1, 64, 256)), ("light", (0, 1, 64)), ("a.x", (-9999, -100, 0, 9999)),
                               ("zoom.y", (-9999, 0, 9999))):
            for value in values:
                with self.subTest(name=called, value=value):
                    head = "camera a 9 1 1\ndial %s %d" % (called, value)
                    self.assertEqual(dial(0, data(head + "\n")), [value, 0])
                    self.assertEqual(dial(0, data(head + " 2-3:5/in\n")), [value, 1])

    def test_how_many_moves(self):
        for count in (0, 1, 2, 10, 63, 64):
            moves = "".join(" %d-%d:%d/even" % (k, k + 1, -k) for k in range(count))
            self.assertEqual(dial(0, data("camera a 99 1 1\ndial x 5%s\ndial y 1\n" % moves)), [5, count])

    def test_a_first_value_that_is_alike_to_a_refusal(self):
        for value in (-1, -2, -4, -6):
            self.assertEqual(dial(0, data("camera a 1 1 1\ndial x %d\n" % value)), [value, 0])

    def test_the_most_dials(self):
        t = data("camera a 9 1 1\n" + "".join("dial l%d.x %d\n" % (k, 7 * k) for k in range(32)))
        for k in range(32):
            self.assertEqual(name(k, t), as_bytes("l%d.x" % k))
            self.assertEqual(dial(k, t), [7 * k, 0])
        self.assertEqual(name(32, t), [-4])
        self.assertEqual(dial(32, t), [-4])

    def test_made_sheets(self):
        source = random.Random(2)
        for round_number in range(60):
            text = made_sheet(source)
            t = data(text)
            lines = text.splitlines()[1:]
            self.assertEqual(sizes(t)[3], len(lines))
            for k, line in enumerate(lines):
                words = line.split(" ")
                self.assertEqual(name(k, t), as_bytes(words[1]), text)
                self.assertEqual(dial(k, t), [int(words[2]), len(words) - 3], text)
            self.assertEqual(name(len(lines), t), [-4])
            self.assertEqual(dial(len(lines), t), [-4])

    def test_answers_are_lists_of_whole_numbers(self):
        for call in (name, dial):
            for text in (SEVERAL, NONE, "", "x" * 65537):
                answer = call(0, data(text))
                self.assertIs(type(answer), list)
                for number in answer:
                    self.assertIs(type(number), int)


class Refusals(unittest.TestCase):
    def test_no_such_dial(self):
        for text, count in ((SEVERAL, len(DIALS)), (NONE, 0), ("camera a 1 1 1\ndial x 0\n", 1)):
            for k in (count, count + 1, count + 1000, GREATEST - 1, GREATEST):
                with self.subTest(count=count, k=k):
                    self.assertEqual(name(k, data(text)), [-4])
                    self.assertEqual(dial(k, data(text)), [-4])

    def test_no_sheet_whatever_k_is(self):
        for text in ("", "camera", SEVERAL[:-1], SEVERAL + "d", SEVERAL + "dial x 0\n", NONE + "\n", "\xff",
                     "camera a 1 1 1\ndial x 0 0-1:1/in\n", "x" * 65536):
            for k in (0, 1, len(DIALS), GREATEST):
                self.assertEqual(name(k, data(text)), [-6])
                self.assertEqual(dial(k, data(text)), [-6])

    def test_too_long_whatever_it_is(self):
        for text in ("", NONE, SEVERAL):
            for length in (65537, 66000):
                t = data(text + "\n" * (length - len(text)))
                for k in (0, len(DIALS), GREATEST):
                    self.assertEqual(name(k, t), [-2])
                    self.assertEqual(dial(k, t), [-2])


if __name__ == "__main__":
    unittest.main()
