"""Ordinary sheets: judge answers 0, sizes what the sheet tells."""

import unittest

from fieldsheets.field import judge, sizes
from fieldsheets.reading import read_sheet
from tests.helper import EASES, data, write

SEVERAL = (
    "camera pan2 48 64 32\n"
    "dial x 0 0-12:100/in 12-24:-100/out 30-47:5/both\n"
    "dial y -7\n"
    "dial zoom 64 4-5:1/even\n"
    "dial light 0 0-1:64/even 1-2:0/even\n"
    "dial hill.x -9999 0-47:9999/both\n"
    "dial hill.y 3\n"
)

SHEETS = (
    ("camera a 1 1 1\n", [1, 1, 1, 0]),
    ("camera b 24 160 120\n", [24, 160, 120, 0]),
    ("camera c 24 160 120\ndial x 80\n", [24, 160, 120, 1]),
    ("camera d 10 20 30\ndial y -5 0-9:-6/even\n", [10, 20, 30, 1]),
    ("camera e9 100 7 256\ndial zoom 64 10-20:32/in 20-30:64/out\n", [100, 7, 256, 1]),
    ("camera f 3 1 2\ndial zoom.x 0\ndial zoom 1\ndial x.x 1\ndial x 2\ndial x.y 3\ndial y.y 4\n", [3, 1, 2, 6]),
    (SEVERAL, [48, 64, 32, 6]),
)


class Ordinary(unittest.TestCase):
    def test_judge_answers_nought(self):
        for text, numbers in SHEETS:
            with self.subTest(text=text):
                self.assertEqual(judge(data(text)), [0])

    def test_sizes_tells_frames_width_height_and_dials(self):
        for text, numbers in SHEETS:
            with self.subTest(text=text):
                self.assertEqual(sizes(data(text)), numbers)

    def test_each_ease(self):
        for ease in EASES:
            with self.subTest(ease=ease):
                self.assertEqual(judge(data("camera a 9 1 1\ndial x 0 0-8:1/%s\n" % ease)), [0])

    def test_answers_are_lists_of_whole_numbers(self):
        for text in (SEVERAL, "", "x" * 65537):
            for answer in (judge(data(text)), sizes(data(text))):
                self.assertIs(type(answer), list)
                for number in answer:
                    self.assertIs(type(number), int)


class OneText(unittest.TestCase):
    def test_a_sheet_written_again_has_the_text_it_was_read_from(self):
        for text, numbers in SHEETS:
            with self.subTest(text=text):
                self.assertEqual(write(read_sheet(data(text))), text)

    def test_no_other_way_to_write_the_same(self):
        for text in (
            "camera a 01 1 1\n", "camera a +1 1 1\n", "camera  a 1 1 1\n", " camera a 1 1 1\n", "camera a 1 1 1 \n",
            "camera a 1 1 1\r\n", "camera a 1 1 1\n\n", "camera a 1 1 1", "CAMERA a 1 1 1\n", "camera\ta 1 1 1\n",
            "camera a 9 1 1\ndial x 0 \n", "camera a 9 1 1\ndial x 0  0-1:1/in\n", "camera a 9 1 1\ndial x -0\n",
            "camera a 9 1 1\ndial x +1\n", "camera a 9 1 1\ndial x 0 0-01:1/in\n",
            "camera a 9 1 1\ndial x 0 0 - 1:1/in\n",
        ):
            with self.subTest(text=text):
                self.assertEqual(judge(data(text))[0], -6)
                self.assertEqual(sizes(data(text)), [-6])


if __name__ == "__main__":
    unittest.main()
