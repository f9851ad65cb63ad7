"""The edges that the document names. In a wrong text, | stands where its fault is; it's no byte of the text."""

import unittest

from fieldsheets.field import judge, sizes
from tests.helper import LONG, SheetCase, data

HEAD = "camera a 1024 1 1\n"


class Edges(SheetCase):
    def test_names(self):
        self.right("camera z 1 1 1\n", "camera %s 1 1 1\n" % LONG, "camera z9 1 1 1\n")
        self.wrong("camera %s|6 1 1 1\n" % LONG, "camera | 1 1 1\n", "camera |9a 1 1 1\n", "camera a|A 1 1 1\n",
                   "camera a|_b 1 1 1\n", "camera a|.x 1 1 1\n", "camera |{ 1 1 1\n", "camera |` 1 1 1\n")

    def test_names_of_levels(self):
        self.right(HEAD + "dial z.x 0\n", HEAD + "dial %s.y 0\n" % LONG)
        self.wrong(HEAD + "dial %s|6.x 0\n" % LONG, HEAD + "dial |.x 0\n", HEAD + "dial |9.x 0\n",
                   HEAD + "dial a.|z 0\n", HEAD + "dial a.x|x 0\n", HEAD + "dial a.|.x 0\n", HEAD + "dial a.| 0\n",
                   HEAD + "dial a| 0\n", HEAD + "dial zoo| 0\n", HEAD + "dial zooms| 0\n", HEAD + "dial | 0\n",
                   HEAD + "dial %s| 0\n" % LONG)

    def test_frames(self):
        self.right("camera a 1 1 1\n", "camera a 1024 1 1\n", "camera a 1023 1 1\n")
        self.wrong("camera a |0 1 1\n", "camera a 102|5 1 1\n", "camera a 103|0 1 1\n",
                   "camera a 200|0 1 1\n", "camera a 1024|0 1 1\n", "camera a |-1 1 1\n", "camera a | 1 1\n")

    def test_every_number_of_frames(self):
        for frames in range(1200):
            answer = judge(data("camera a %d 1 1\n" % frames))
            self.assertEqual(answer[0], 0 if 1 <= frames <= 1024 else -6, frames)

    def test_width_and_height(self):
        for form in ("camera a 1 %s 1\n", "camera a 1 1 %s\n"):
            self.right(form % 1, form % 256)
            self.wrong(form % "|0", form % "25|7", form % "26|0", form % "256|0", form % "99|9", form % "100|0",
                       form % "|-1", form % "|", form % "|01")
            for side in range(1000):
                self.assertEqual(judge(data(form % side))[0], 0 if 1 <= side <= 256 else -6, side)

    def test_values(self):
        for name, least, most in (("zoom", 1, 256), ("light", 0, 64), ("x", -9999, 9999), ("y", -9999, 9999),
                                  ("a.x", -9999, 9999), ("zoom.x", -9999, 9999), ("light.y", -9999, 9999)):
            for form in (HEAD + "dial %s %%s\n" % name, HEAD + "dial %s 1 0-1:%%s/in\n" % name):
                self.right(form % least, form % most, form % 1, form % 50)
                for value in (least - 1, most + 1):
                    self.assertEqual(judge(data(form % value))[0], -6)

    def test_faults_of_values(self):
        for form in (HEAD + "dial zoom %s\n", HEAD + "dial zoom 1 0-1:%s/in\n"):
            self.wrong(form % "|0", form % "25|7", form % "|-1")
        for form in (HEAD + "dial light %s\n", HEAD + "dial light 1 0-1:%s/in\n"):
            self.wrong(form % "6|5", form % "7|0", form % "64|0", form % "0|0", form % "0|1", form % "|-1")
        for name in ("x", "y", "a.x", "a.y"):
            for form in (HEAD + "dial " + name + " %s\n", HEAD + "dial " + name + " 1 0-1:%s/in\n"):
                self.wrong(form % "1000|0", form % "9999|9", form % "-1000|0", form % "-9999|9", form % "-|0",
                           form % "-|-1", form % "-|", form % "0|0", form % "0|1", form % "|", form % "-|01")

    def test_dials(self):
        lines = ["dial l%d.x 0\n" % k for k in range(33)]
        self.right(HEAD + "".join(lines[:31]), HEAD + "".join(lines[:32]))
        self.wrong(HEAD + "".join(lines[:32]) + "|" + lines[32], HEAD + "".join(lines[:32]) + "|d")
        self.assertEqual(sizes(data(HEAD + "".join(lines[:32]))), [1024, 1, 1, 32])

    def test_moves(self):
        moves = ["%d-%d:0/in" % (k, k + 1) for k in range(65)]
        for head in (HEAD + "dial x 0 ", HEAD + "dial x 0 0-1:1/out\ndial y 0 "):
            self.right(head + " ".join(moves[:63]) + "\n", head + " ".join(moves[:64]) + "\n")
            self.wrong(head + " ".join(moves[:64]) + "| " + moves[64] + "\n")

    def test_each_dial_has_moves_of_its_own(self):
        moves = " ".join("%d-%d:1/in" % (k, k + 1) for k in range(959, 1023))
        text = HEAD + "".join("dial l%d.x 0 %s\n" % (k, moves) for k in range(32))
        self.right(text)

    def test_two_dials_of_one_name(self):
        self.wrong(HEAD + "dial x 0\ndial x| 0\n", HEAD + "dial zoom 1\ndial y 0\ndial zoom| 1\n",
                   HEAD + "dial light 1\ndial light| 1\n", HEAD + "dial y 1\ndial y| 1\n",
                   HEAD + "dial a.x 0\ndial a.|x 0\n", HEAD + "dial a.y 0\ndial a.|y 0\n",
                   HEAD + "dial %s.x 0\ndial %s.|x 0\n" % (LONG, LONG))
        self.right(HEAD + "dial x 0\ndial x.x 0\ndial x.y 0\ndial xx.x 0\n", HEAD + "dial a.x 0\ndial a.y 0\n")

    def test_a_name_that_leaves_no_free_dial(self):
        self.wrong(HEAD + "dial a.x 0\ndial a.y 0\ndial a|.x 0\n", HEAD + "dial a.y 0\ndial a.x 0\ndial a|.")
        both = HEAD + "dial %s.x 0\ndial %s.y 0\n" % (LONG, LONG)
        self.wrong(both + "dial %s|5.x 0\n" % LONG[:-1], both + "dial %s|5" % LONG[:-1])
        self.right(both + "dial %s.x 0\n" % LONG[:-1], both + "dial %s6.x 0\n" % LONG[:-1])

    def test_where_a_move_ends(self):
        self.right("camera a 10 1 1\ndial x 0 0-9:1/in\n", "camera a 2 1 1\ndial x 0 0-1:1/in\n",
                   HEAD + "dial x 0 1022-1023:1/in\n")
        self.wrong("camera a 10 1 1\ndial x 0 0-1|0:1/in\n", "camera a 10 1 1\ndial x 0 |9-10:1/in\n",
                   "camera a 2 1 1\ndial x 0 0-|2:1/in\n", "camera a 2 1 1\ndial x 0 |1-2:1/in\n",
                   HEAD + "dial x 0 102|3-1024:1/in\n", HEAD + "dial x 0 0-102|4:1/in\n")

    def test_where_a_move_begins(self):
        head = "camera a 100 1 1\ndial x 0 10-20:1/in "
        self.right(head + "20-21:1/in\n", head + "21-22:1/in\n", head + "98-99:1/in\n")
        self.wrong(head + "|19-30:1/in\n", head + "2|-30:1/in\n", head + "|10-20:1/in\n", head + "|0-30:1/in\n",
                   head + "9|9-100:1/in\n")

    def test_a_later_dial_may_begin_at_nought_again(self):
        self.right("camera a 10 1 1\ndial x 0 0-9:1/in\ndial y 0 0-9:1/in\n")

    def test_behind_a_move_that_ends_last_comes_none(self):
        self.wrong("camera a 10 1 1\ndial x 0 0-9:1/in| 9-10:1/in\n", "camera a 10 1 1\ndial x 0 0-9:1/in| ")
        self.right("camera a 10 1 1\ndial x 0 0-8:1/in 8-9:2/in\n")

    def test_a_move_ends_later_than_it_begins(self):
        head = "camera a 100 1 1\ndial x 0 "
        self.right(head + "5-6:1/in\n", head + "0-1:1/in\n", head + "19-20:1/in\n")
        self.wrong(head + "5-5|:1/in\n", head + "5-4|:1/in\n", head + "0-|0:1/in\n", head + "20-|19:1/in\n",
                   head + "20-2|0:1/in\n", head + "98-9|8:1/in\n", head + "95-|5:1/in\n", head + "5-|-6:1/in\n")

    def test_one_frame_has_no_move(self):
        self.right("camera a 1 1 1\ndial x 0\n")
        self.wrong("camera a 1 1 1\ndial x 0| 0-1:1/in\n", "camera a 1 1 1\ndial x 0| 0-0:1/in\n")

    def test_length(self):
        text = HEAD + "dial x 0 0-5:1/in\n"
        for count, rest in ((65535, [-6, len(text)]), (65536, [-6, len(text)]), (65537, [-2]), (66000, [-2])):
            t = data(text + " " * (count - len(text)))
            self.assertEqual(len(t), count)
            self.assertEqual(judge(t), rest)
            self.assertEqual(sizes(t), rest[:1])

    def test_too_long_comes_first(self):
        for sign in "\0c0\n":
            self.assertEqual(judge(data(sign * 65537)), [-2])
            self.assertEqual(sizes(data(sign * 65537)), [-2])
        self.assertEqual(judge(data("c" * 65536)), [-6, 1])
        self.assertEqual(sizes(data("c" * 65536)), [-6])

    def test_long_tails_end_at_their_first_wrong_byte(self):
        for head, sign, passed in (("camera ", "a", 16), ("camera a ", "1", 3), ("camera a 9 ", "2", 3),
                                   ("camera a 9 1 1\ndial ", "a", 16), ("camera a 9 1 1\ndial x ", "-", 1),
                                   ("camera a 9 1 1\ndial x ", "9", 4), ("camera a 9 1 1\ndial x ", "0", 1)):
            self.assertEqual(judge(data(head + sign * 65000)), [-6, len(head) + passed])


if __name__ == "__main__":
    unittest.main()
