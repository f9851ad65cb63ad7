"""see: what the camera sees of the levels on the table (F4)."""

import random
import unittest

from fieldsheets.field import see
from tests.helper import GREATEST, LEAST_GIVEN, MOST_GIVEN, made_paints, reference_seen, row_of_levels

ENDS = (LEAST_GIVEN, LEAST_GIVEN + 1, MOST_GIVEN - 1, MOST_GIVEN)


def numbered(width, height, dx, dy):
    """A level whose paints tell its points' numbers, from 1 on."""
    return (width, height, dx, dy, list(range(1, width * height + 1)))


def row_seen(cx, zoom, count, level=(9, 1, -4, 0, list(range(1, 10)))):
    """What a field one point high sees; the level is 9 wide and has paint 5 at the table's (0, 0)."""
    answer = see(cx, 0, zoom, count, 1, row_of_levels([level]))
    assert answer[0] == count == len(answer) - 1, answer
    return answer[1:]


def column_seen(cy, zoom, count):
    answer = see(0, cy, zoom, 1, count, row_of_levels([(1, 9, 0, -4, list(range(1, 10)))]))
    assert answer[0] == count == len(answer) - 1, answer
    return answer[1:]


class Levels(unittest.TestCase):
    def test_no_level(self):
        for width, height in ((1, 1), (2, 3), (256, 1), (1, 256), (256, 256)):
            for cx, cy in ((0, 0), (-5, 7), (LEAST_GIVEN, MOST_GIVEN)):
                for zoom in (1, 64, 256):
                    points = width * height
                    self.assertEqual(see(cx, cy, zoom, width, height, []), [points] + [0] * points)

    def test_one_level(self):
        self.assertEqual(see(2, 1, 64, 4, 2, [4, 2, 0, 0, 1, 2, 3, 4, 5, 6, 7, 8]), [8, 1, 2, 3, 4, 5, 6, 7, 8])
        self.assertEqual(see(0, 0, 64, 1, 1, [1, 1, 0, 0, 255]), [1, 255])
        self.assertEqual(see(1, 1, 64, 2, 2, [2, 2, 0, 0, 0, 255, 1, 0]), [4, 0, 255, 1, 0])

    def test_wide_and_high_are_not_the_same(self):
        level = row_of_levels([numbered(3, 2, 0, 0)])
        self.assertEqual(see(1, 1, 64, 3, 2, level), [6, 1, 2, 3, 4, 5, 6])
        self.assertEqual(see(1, 1, 64, 2, 3, level), [6, 1, 2, 4, 5, 0, 0])
        self.assertEqual(see(0, 1, 64, 1, 2, level), [2, 1, 4])
        self.assertEqual(see(1, 0, 64, 3, 1, level), [3, 1, 2, 3])

    def test_the_first_is_uppermost(self):
        upper, lower = (2, 1, 0, 0, [7, 7]), (2, 1, 0, 0, [9, 9])
        self.assertEqual(see(1, 0, 64, 2, 1, row_of_levels([upper, lower])), [2, 7, 7])
        self.assertEqual(see(1, 0, 64, 2, 1, row_of_levels([lower, upper])), [2, 9, 9])

    def test_clear_points_show_what_lies_below(self):
        levels = [(4, 1, 0, 0, [1, 0, 0, 0]), (4, 1, 0, 0, [2, 2, 0, 0]), (4, 1, 0, 0, [3, 3, 3, 0])]
        self.assertEqual(see(2, 0, 64, 4, 1, row_of_levels(levels)), [4, 1, 2, 3, 0])

    def test_eight_levels(self):
        levels = [(9, 1, 0, 0, [0] * k + [k + 1] + [0] * (8 - k)) for k in range(8)]
        self.assertEqual(see(4, 0, 64, 9, 1, row_of_levels(levels)), [9, 1, 2, 3, 4, 5, 6, 7, 8, 0])
        stairs = [(9, 1, k, 0, [k + 1] * 9) for k in range(8)]
        self.assertEqual(see(8, 0, 64, 17, 1, row_of_levels(stairs)),
                         [17] + [1] * 9 + [2, 3, 4, 5, 6, 7, 8, 0])
        last = [(1, 1, 0, 0, [0])] * 7 + [(1, 1, 0, 0, [200])]
        self.assertEqual(see(0, 0, 64, 1, 1, row_of_levels(last)), [1, 200])

    def test_levels_are_moved(self):
        for dx, dy, expected in (
                (0, 0, [1, 2, 0, 3, 4, 0, 0, 0, 0]),
                (1, 0, [0, 1, 2, 0, 3, 4, 0, 0, 0]),
                (0, 1, [0, 0, 0, 1, 2, 0, 3, 4, 0]),
                (1, 1, [0, 0, 0, 0, 1, 2, 0, 3, 4]),
                (-1, 0, [2, 0, 0, 4, 0, 0, 0, 0, 0]),
                (0, -1, [3, 4, 0, 0, 0, 0, 0, 0, 0]),
                (-1, -1, [4, 0, 0, 0, 0, 0, 0, 0, 0]),
                (2, -1, [0, 0, 3, 0, 0, 0, 0, 0, 0]),
                (-1, 2, [0, 0, 0, 0, 0, 0, 2, 0, 0]),
                (2, 2, [0, 0, 0, 0, 0, 0, 0, 0, 1]),
                (3, 0, [0] * 9),
                (0, 3, [0] * 9),
                (-2, 0, [0] * 9),
                (0, -2, [0] * 9),
                (32767, -32768, [0] * 9)):
            with self.subTest(dx=dx, dy=dy):
                self.assertEqual(see(1, 1, 64, 3, 3, row_of_levels([numbered(2, 2, dx, dy)])), [9] + expected)

    def test_moved_as_far_as_can_be(self):
        for dx in (-32768, 32767):
            for dy in (-32768, 32767):
                level = row_of_levels([numbered(2, 2, dx, dy)])
                self.assertEqual(see(dx + 1, dy + 1, 64, 2, 2, level), [4, 1, 2, 3, 4])
                self.assertEqual(see(dx, dy, 64, 2, 2, level), [4, 0, 0, 0, 1])
                self.assertEqual(see(0, 0, 256, 2, 2, level), [4, 0, 0, 0, 0])

    def test_each_level_is_moved_by_its_own(self):
        levels = [numbered(2, 1, 1, 0), (2, 1, 0, 0, [8, 9]), (1, 1, -1, 0, [7])]
        self.assertEqual(see(1, 0, 64, 5, 1, row_of_levels(levels)), [5, 7, 8, 1, 2, 0])


class Looked(unittest.TestCase):
    """At which points of the table the field's points look, worked out by hand."""

    def test_zoom_64(self):
        for seen in (row_seen, column_seen):
            self.assertEqual(seen(0, 64, 1), [5])
            self.assertEqual(seen(0, 64, 2), [4, 5])
            self.assertEqual(seen(0, 64, 3), [4, 5, 6])
            self.assertEqual(seen(0, 64, 4), [3, 4, 5, 6])
            self.assertEqual(seen(1, 64, 3), [5, 6, 7])
            self.assertEqual(seen(-4, 64, 3), [0, 1, 2])
            self.assertEqual(seen(4, 64, 3), [8, 9, 0])
            self.assertEqual(seen(-6, 64, 3), [0, 0, 0])
            self.assertEqual(seen(6, 64, 3), [0, 0, 0])

    def test_zoom_128(self):
        for seen in (row_seen, column_seen):
            self.assertEqual(seen(0, 128, 1), [5])
            self.assertEqual(seen(0, 128, 2), [4, 6])
            self.assertEqual(seen(0, 128, 3), [3, 5, 7])
            self.assertEqual(seen(-1, 128, 5), [0, 2, 4, 6, 8])

    def test_zoom_256(self):
        for seen in (row_seen, column_seen):
            self.assertEqual(seen(0, 256, 1), [5])
            self.assertEqual(seen(0, 256, 2), [3, 7])
            self.assertEqual(seen(0, 256, 3), [1, 5, 9])
            self.assertEqual(seen(1, 256, 4), [0, 4, 8, 0])

    def test_zoom_1(self):
        for seen in (row_seen, column_seen):
            self.assertEqual(seen(0, 1, 1), [5])
            self.assertEqual(seen(0, 1, 2), [4, 5])
            self.assertEqual(seen(0, 1, 3), [4, 5, 5])
            self.assertEqual(seen(0, 1, 128), [4] * 64 + [5] * 64)
            self.assertEqual(seen(0, 1, 129), [4] * 64 + [5] * 64 + [6])
            self.assertEqual(seen(0, 1, 255), [3] * 63 + [4] * 64 + [5] * 64 + [6] * 64)
            self.assertEqual(seen(0, 1, 256), [3] * 64 + [4] * 64 + [5] * 64 + [6] * 64)

    def test_quotients_below_0_are_rounded_towards_below(self):
        for seen in (row_seen, column_seen):
            # Quotients of 32 are -3/4, -1/4, 1/4, 3/4; of 96 they are -9/4, -3/4, 3/4, 9/4.
            self.assertEqual(seen(0, 32, 4), [4, 4, 5, 5])
            self.assertEqual(seen(0, 96, 4), [2, 4, 5, 7])
            self.assertEqual(seen(0, 127, 2), [4, 5])
            self.assertEqual(seen(0, 129, 2), [3, 6])
            self.assertEqual(seen(-2, 96, 4), [0, 2, 3, 5])

    def test_a_middle_at_the_ends(self):
        level = row_of_levels([numbered(2, 2, 0, 0)])
        for cx in ENDS + (0,):
            for cy in ENDS + (0,):
                if (cx, cy) != (0, 0):
                    for zoom in (1, 64, 256):
                        self.assertEqual(see(cx, cy, zoom, 2, 3, level), [6] + [0] * 6)

    def test_a_middle_just_beyond_what_is_seen(self):
        # The longest field at the widest zoom looks from 510 before its middle to 510 behind it.
        level = (1, 1, 0, 0, [3])
        self.assertEqual(row_seen(510, 256, 256, level), [3] + [0] * 255)
        self.assertEqual(row_seen(-510, 256, 256, level), [0] * 255 + [3])
        self.assertEqual(row_seen(511, 256, 256, level), [0] * 256)
        self.assertEqual(row_seen(-511, 256, 256, level), [0] * 256)


class Sizes(unittest.TestCase):
    def test_long_sheets(self):
        self.assertEqual(see(128, 0, 64, 256, 1, [256, 1, 0, 0] + list(range(256))), [256] + list(range(256)))
        self.assertEqual(see(0, 128, 64, 1, 256, [1, 256, 0, 0] + list(range(256))), [256] + list(range(256)))

    def test_as_much_as_may_be_handed_in(self):
        source = random.Random(10)
        paints = made_paints(source, 256 * 234)
        row = [256, 234, 0, 0] + paints
        self.assertLessEqual(len(row), 60000)
        self.assertEqual(see(128, 128, 64, 256, 256, row), [65536] + paints + [0] * (256 * 22))
        levels = [(86, 87, 10 * k, 5 * k, [0] * (86 * 87)) for k in range(7)] + [(86, 87, 0, 0, [4] * (86 * 87))]
        row = row_of_levels(levels)
        self.assertLessEqual(len(row), 60000)
        answer = see(43, 43, 21, 256, 256, row)
        self.assertEqual(answer, [65536] + [4] * 65536)

    def test_wrong_rows_as_long_as_may_be(self):
        for number in (-32768, -1, 0, 1, 2, 256, 257, 32767):
            self.assertEqual(see(0, 0, 64, 256, 256, [number] * 60000), [-1])
        self.assertEqual(see(0, 0, 64, 256, 256, [256, 234, 0, 0] + [0] * (60000 - 4)), [-1])

    def test_made_levels(self):
        source = random.Random(11)
        for round_number in range(400):
            levels, view = made_levels(source), made_view(source)
            answer = see(*view, row_of_levels(levels))
            expected = reference_seen(levels, *view)
            self.assertEqual(answer, [len(expected)] + expected, (levels, view))

    def test_answers_are_lists_of_whole_numbers(self):
        for width in (0, 2):
            answer = see(0, 0, 64, width, 2, row_of_levels([numbered(2, 2, 0, 0)]))
            self.assertIs(type(answer), list)
            self.assertEqual({type(number) for number in answer}, {int})


def made_levels(source):
    levels = []
    for k in range(source.choice((0, 1, 2, 3, 8))):
        width, height = source.randint(1, 12), source.randint(1, 12)
        dx, dy = source.randint(-9, 9), source.randint(-9, 9)
        levels.append((width, height, dx, dy, made_paints(source, width * height)))
    return levels


def made_view(source):
    """cx, cy, zoom, width, height."""
    zoom = source.choice((1, 32, 63, 64, 65, 128, 256, source.randint(1, 256)))
    return (source.randint(-9, 9), source.randint(-9, 9), zoom, source.randint(1, 20), source.randint(1, 20))


class Promise(unittest.TestCase):
    """F4."""

    def test_the_uppermost_paint(self):
        source = random.Random(12)
        for round_number in range(100):
            levels, view = made_levels(source), made_view(source)
            alone = [see(*view, row_of_levels([level]))[1:] for level in levels]
            answer = see(*view, row_of_levels(levels))[1:]
            for point, paint in enumerate(answer):
                there = [paints[point] for paints in alone if paints[point] != 0]
                self.assertEqual(paint, (there + [0])[0], (levels, view, point))

    def test_moved_by_the_same(self):
        source = random.Random(13)
        for round_number in range(150):
            levels, view = made_levels(source), made_view(source)
            du, dv = source.choice((1, -1, 31000, -32000)), source.randint(-32000, 31000)
            moved = [(width, height, dx + du, dy + dv, paints) for width, height, dx, dy, paints in levels]
            self.assertEqual(see(view[0] + du, view[1] + dv, *view[2:], row_of_levels(moved)),
                             see(*view, row_of_levels(levels)), (levels, view, du, dv))

    def test_looked_at_from_the_middle(self):
        source = random.Random(14)
        for round_number in range(100):
            width, height = 2 * source.randint(1, 8), 2 * source.randint(1, 8)
            levels = [(width, height, source.randint(-5, 5), source.randint(-5, 5), made_paints(source, width * height))
                      for k in range(source.randint(0, 8))]
            expected = [over(levels, x, y) for y in range(height) for x in range(width)]
            answer = see(width // 2, height // 2, 64, width, height, row_of_levels(levels))
            self.assertEqual(answer, [width * height] + expected, levels)

    def test_one_unmoved_sheet_from_the_middle(self):
        source = random.Random(15)
        for width, height in ((2, 2), (2, 4), (16, 6), (64, 32), (256, 2), (2, 256), (256, 234)):
            paints = made_paints(source, width * height)
            self.assertEqual(see(width // 2, height // 2, 64, width, height, [width, height, 0, 0] + paints),
                             [width * height] + paints)


def over(levels, x, y):
    """The moved sheets over one another, at one point."""
    for width, height, dx, dy, paints in levels:
        if 0 <= x - dx < width and 0 <= y - dy < height and paints[(y - dy) * width + x - dx] != 0:
            return paints[(y - dy) * width + x - dx]
    return 0


class Refusals(unittest.TestCase):
    ROW = row_of_levels([numbered(2, 3, -5, 6), (1, 1, 0, 0, [0])])

    def refused(self, *rows):
        for row in rows:
            with self.subTest(row=row[:40]):
                self.assertEqual(see(0, 0, 64, 2, 2, row), [-1])

    def right(self, *rows):
        for row in rows:
            with self.subTest(row=row[:40]):
                self.assertEqual(len(see(0, 0, 64, 2, 2, row)), 5)

    def test_zoom(self):
        for zoom in (0, 257, 258, 65536, GREATEST):
            self.assertEqual(see(0, 0, zoom, 2, 2, self.ROW), [-1])
            self.assertEqual(see(0, 0, zoom, 2, 2, []), [-1])
        for zoom in (1, 256):
            self.assertEqual(len(see(0, 0, zoom, 2, 2, self.ROW)), 5)

    def test_width_and_height(self):
        for side in (0, 257, 258, 65536, GREATEST):
            for row in (self.ROW, []):
                self.assertEqual(see(0, 0, 64, side, 2, row), [-1])
                self.assertEqual(see(0, 0, 64, 2, side, row), [-1])
                self.assertEqual(see(0, 0, 64, side, side, row), [-1])
        for side in (1, 256):
            self.assertEqual(see(0, 0, 64, side, 2, self.ROW)[0], 2 * side)
            self.assertEqual(see(0, 0, 64, 2, side, self.ROW)[0], 2 * side)

    def test_how_many_levels(self):
        self.right(*([1, 1, 0, 0, 5] * count for count in range(9)))
        self.refused(*([1, 1, 0, 0, 5] * count for count in (9, 10, 100, 12000)))

    def test_a_levels_size(self):
        for wrong in (0, -1, -2, -32768, 257, 32767):
            for other in (1, 2, 256, -1, 0):
                # So many paints as the two would make, and fewer and more.
                for count in {0, 1, 2, min(abs(wrong * other), 50000)}:
                    self.refused([wrong, other, 0, 0] + [0] * count, [other, wrong, 0, 0] + [0] * count)
        self.refused(*(self.ROW + [wrong, 1, 0, 0, 0] for wrong in (0, -1, 257)))
        self.refused(*(self.ROW + [1, wrong, 0, 0, 0] for wrong in (0, -1, 257)))
        self.right([256, 1, 0, 0] + [0] * 256, [1, 256, 0, 0] + [0] * 256)

    def test_paints(self):
        for wrong in (-1, 256, -32768, 257, 32767):
            for place in range(6):
                paints = [0] * 6
                paints[place] = wrong
                self.refused([2, 3, 0, 0] + paints, [1, 1, 0, 0, 9, 3, 2, 9, 9] + paints)
        self.right([2, 1, 0, 0, 0, 255])

    def test_paints_that_are_not_seen(self):
        self.refused([1, 1, 32767, 32767, 256], [1, 1, 0, 0, 7, 1, 1, 0, 0, 256], [1, 1, -32768, 0, -1])

    def test_numbers_that_lack(self):
        for count in range(len(self.ROW) + 1):
            if count in (0, 10, len(self.ROW)):
                self.right(self.ROW[:count])
            else:
                self.refused(self.ROW[:count])

    def test_numbers_that_are_left_over(self):
        for number in (-32768, -1, 0, 1, 2, 256, 257, 32767):
            self.refused(self.ROW + [number], [number])

    def test_a_number_left_over_behind_eight_levels(self):
        self.refused(*([1, 1, 0, 0, 5] * 8 + [number] for number in (-1, 0, 1)))

    def test_any_move_is_right(self):
        for dx in (-32768, -1, 0, 32767):
            for dy in (-32768, -1, 0, 32767):
                self.right([1, 1, dx, dy, 5])

    def test_wherever_the_field_is(self):
        for middle in ENDS:
            self.assertEqual(see(middle, middle, 0, 2, 2, self.ROW), [-1])
            self.assertEqual(see(middle, middle, 64, 2, 2, self.ROW[:-1]), [-1])


if __name__ == "__main__":
    unittest.main()
