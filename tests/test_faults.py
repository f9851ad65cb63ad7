"""Wrong texts and their faults. In a wrong text, | stands where its fault is; it's no byte of the text."""

import random
import unittest

from fieldsheets.field import judge, sizes
from fieldsheets.reading import read_sheet
from tests.helper import SheetCase, data, made_sheet, reference_fault, word, write

SMALL = (
    "camera pan2 48 64 32\n"
    "dial x 0 0-12:100/in 12-24:-100/out 30-47:5/both\n"
    "dial zoom 64 4-5:1/even\n"
    "dial light 0\n"
    "dial hill.x -9999\n"
    "dial hill.y 3\n"
)
FULL_NAMES = "camera b 103 7 256\ndial abcdefghij012345.x 0\ndial abcdefghij012345.y 0 98-100:-12/out 100-101:1/in\n"


class Faults(SheetCase):
    def test_the_empty_text(self):
        self.assertEqual(judge([]), [-6, 0])
        self.assertEqual(sizes([]), [-6])

    def test_texts_that_break_off(self):
        for text in (SMALL, FULL_NAMES):
            for k in range(len(text)):
                t = data(text[:k])
                if text[:k].endswith("\n"):
                    self.assertEqual(judge(t), [0])
                    self.assertEqual(sizes(t)[3], text[:k].count("\n") - 1)
                else:
                    self.assertEqual(judge(t), [-6, k])
                    self.assertEqual(sizes(t), [-6])

    def test_words(self):
        for marked in ("|Camera a 1 1 1\n", "c|omera a 1 1 1\n", "camera|a 1 1 1\n", "camera|\ta 1 1 1\n", "| camera"):
            self.wrong(marked)
        head = "camera a 9 1 1\n"
        for rest in ("|Dial x 0\n", "di|el x 0\n", "dial|s x 0\n", "dial |X 0\n", "|camera a 9 1 1\n"):
            self.wrong(head + rest)
        for rest in ("|", "|Even", "|BOTH", "eve|m", "bo|oth", "i|m", "o|n", "even|s", "in|n", "in|out",
                     "bot|", "eve|"):
            self.wrong(head + "dial x 0 0-1:1/" + rest + "\n")

    def test_signs_between(self):
        for rest in (" |\n", "|,0-1:1/in\n", " | 0-1:1/in\n", " 0|:1-1/in\n", " 0-|-1:1/in\n", " 0-1|-1/in\n",
                     " 0-1:1|:in\n", " 0-1:1|in\n", " 0-1:1|\n", " 0|\n", " 0-1|\n", "|\r\n", "|.5\n",
                     " 0-1:1/in|,", " 0-1:1/in|\r\n", " 0-1:1/in |\n"):
            self.wrong("camera a 9 1 1\ndial x 0" + rest)

    def test_needless_noughts_and_signs(self):
        for marked in ("camera a |01 1 1\n", "camera a 1 |01 1\n", "camera a 1 1 |01\n", "camera a |00 1 1\n",
                       "camera a |-1 1 1\n", "camera a |+1 1 1\n"):
            self.wrong(marked)
        for rest in ("dial x 0|0\n", "dial x 0|5\n", "dial x -|0\n", "dial x -|05\n", "dial x -|\n", "dial x -|-1\n",
                     "dial x |+1\n", "dial zoom |01\n", "dial zoom |-1\n", "dial light 0|0\n", "dial light |-0\n",
                     "dial x 0 0|0-1:1/in\n", "dial x 0 0|1-2:1/in\n", "dial x 0 0-|01:1/in\n", "dial x 0 |-1-2:1/in\n",
                     "dial x 0 0-1:0|1/in\n", "dial x 0 0-1:-|0/in\n", "dial x 0 0-1:-|/in\n"):
            self.wrong("camera a 9 1 1\n" + rest)

    def test_behind_the_last_line(self):
        for rest in ("|\n", "| ", "|x", "|\0", "|\xff", "d|d", "dial|\n", "|camera b 1 1 1\n", "dia|"):
            self.wrong("camera a 1 1 1\n" + rest)
            self.wrong("camera a 1 1 1\ndial x 0\n" + rest)

    def test_digits_that_can_become_no_allowed_number(self):
        head = "camera a 250 1 1\ndial x 0 "
        # F is 0 to 248 here.
        for rest in ("24|9-250:1/in\n", "25|0-251:1/in\n", "30|0-301:1/in\n", "248|0"):
            self.wrong(head + rest)
        # T is F + 1 to 249.
        for rest in ("3-25|0:1/in\n", "3-3|:1/in\n", "30-2|9:1/in\n", "7-6|:1/in\n", "200-|3", "200-2|6", "200-20|0",
                     "99-1|:1/in\n", "99-|99", "120-1|1", "120-12|0", "120-12|:", "0-200|0", "248-24|8", "248-|1"):
            self.wrong(head + rest)
        # F is 248 alone.
        for rest in ("|1", "|9", "2|00", "2|6", "2|:", "24|7", "24|9", "248|9"):
            self.wrong(head + "0-248:1/in " + rest)


class AgainstTheReference(unittest.TestCase):
    """The same faults as found by listing all that may stand next."""

    def same(self, t):
        fault = reference_fault(t)
        expected = [0] if fault is None else [-6, fault]
        if judge(t) != expected:
            self.assertEqual((word(t), judge(t)), (word(t), expected))

    def test_one_wrong_byte_at_each_place(self):
        for text in (SMALL, FULL_NAMES):
            t = data(text)
            for k in range(len(t)):
                for byte in range(256):
                    self.same(t[:k] + [byte] + t[k + 1:])

    def test_one_byte_more_or_less_at_each_place(self):
        for text in (SMALL, FULL_NAMES):
            t = data(text)
            for k in range(len(t) + 1):
                self.same(t[:k] + t[k + 1:])
                for sign in "\n -./0129:adioxyz\0\xff":
                    self.same(t[:k] + data(sign) + t[k:])

    def test_numbers_of_moves_of_each_size(self):
        for frames in (1, 2, 3, 9, 10, 11, 12, 100, 101, 199, 1000, 1023, 1024):
            for end in (1, 8, 9, 10, 98, 99, 100, 198, 997, 1021, 1022, 1023):
                for start in (0, 1, 2, 9, 10, 11, 19, 20, 99, 100, 101, 102, 199, 998, 1000, 1021, 1022, 1023, 1024):
                    for more in (-1, 0, 1, 9, 900):
                        text = "camera a %d 1 1\ndial x 0 0-%d:1/in %d-%d:2/out\n" % (frames, end, start, start + more)
                        self.same(data(text))

    def test_made_sheets_and_what_becomes_of_them_by_small_changes(self):
        source = random.Random(1)
        for round_number in range(300):
            text = made_sheet(source)
            t = data(text)
            self.assertEqual(judge(t), [0], text)
            self.assertEqual(write(read_sheet(t)), text)
            self.assertIsNone(reference_fault(t))
            for change in range(12):
                self.same(changed(source, t))


def changed(source, t):
    k = source.randrange(len(t))
    j = source.randrange(len(t))
    byte = source.choice(data("\n -./0123456789:abdehilnotuvxyz") + [source.randrange(256)])
    lines = word(t).splitlines(keepends=True)
    return source.choice((
        t[:k] + [byte] + t[k + 1:], t[:k] + [byte] + t[k:], t[:k] + t[k + 1:], t[:k], t[:k] + t[j:],
        t + data(source.choice(lines)), data("".join(source.sample(lines, len(lines)))),
    ))


if __name__ == "__main__":
    unittest.main()
