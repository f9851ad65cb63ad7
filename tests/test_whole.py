"""MAIN, over made sheets and levels, from what the calls answer alone: each dial goes from where it is to where it's
told, never past, never back; and at each point the camera sees the uppermost paint that lies there."""

import random
import unittest

from fieldsheets.field import dial, ease, judge, move, name, range_of, shot, sizes, value
from tests.helper import data, made_paints, made_sheet, row_of_named, word


def small_sheets(source, count):
    """Made sheets; as each frame is asked of the whole text, not those that are long and have many frames."""
    found = []
    while len(found) < count:
        text = made_sheet(source)
        if len(text) * int(text.split(" ")[2]) <= 20000:
            found.append(data(text))
    return found


class Main(unittest.TestCase):
    def test_each_dial_goes_to_where_it_is_told(self):
        for t in small_sheets(random.Random(18), 80):
            self.assertEqual(judge(t), [0])
            frames, width, height, count = sizes(t)
            for k in range(min(count, 6)):
                s = name(k, t)[1:]
                found = [value(f, t, s)[0] for f in range(frames)]
                self.go_along(t, k, found)
                least, first_least, greatest, first_greatest = range_of(t, s)
                self.assertEqual((least, greatest), (min(found), max(found)))
                self.assertEqual((found.index(least), found.index(greatest)), (first_least, first_greatest))

    def go_along(self, t, k, found):
        held, count = dial(k, t)
        at = 0
        for i in range(count):
            start, end, target, number = move(k, i, t)
            self.assertEqual(found[at:start + 1], [held] * (start + 1 - at))
            way = found[start:end + 1]
            self.assertEqual((way[0], way[-1]), (held, target))
            self.assertEqual(way, sorted(way, reverse=target < held))
            self.assertEqual(way, [ease(number, end - start, f, held, target)[0] for f in range(end - start + 1)])
            held = target
            at = end
        self.assertEqual(found[at:], [held] * (len(found) - at))

    def test_the_uppermost_paint_is_seen(self):
        source = random.Random(19)
        painted = 0
        for t in small_sheets(source, 60):
            frames, width, height, count = sizes(t)
            names = [word(name(k, t)[1:]).split(".")[0] for k in range(count)] + ["a", "hill"]
            rows = []
            for k in range(source.randint(0, 8)):
                wide, high = source.randint(1, 30), source.randint(1, 30)
                rows.append(row_of_named([(source.choice(names), wide, high, made_paints(source, wide * high))]))
            f = source.randrange(frames)
            alone = [shot(f, t, row)[1:] for row in rows]
            answer = shot(f, t, sum(rows, []))
            self.assertEqual(len(answer), width * height + 1)
            for point, paint in enumerate(answer[1:]):
                there = [paints[point] for paints in alone if paints[point] != 0]
                self.assertEqual(paint, (there + [0])[0])
                painted += len(there) > 1
        # Else the sheets would lie too far off to tell anything.
        self.assertGreater(painted, 500)


if __name__ == "__main__":
    unittest.main()
