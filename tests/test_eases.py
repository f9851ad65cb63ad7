"""ease: a value on the way from one to another (F2)."""

import random
import unittest

from fieldsheets.field import ease, value
from tests.helper import BACKWARDS, EASES, GREATEST, LEAST_GIVEN, MOST_GIVEN, data, reference_eased

WAYS = ((0, 1), (1, 0), (0, -1), (-9999, 9999), (9999, -9999), (-3, 4), (5, -6), (-9999, -9998), (7, 7), (64, 0))


def steps(e, n, a, b):
    answers = [ease(e, n, i, a, b) for i in range(n + 1)]
    assert all(len(answer) == 1 for answer in answers), answers
    return [answer[0] for answer in answers]


class Steps(unittest.TestCase):
    """Worked out by hand."""

    def test_even(self):
        self.assertEqual(steps(0, 4, 0, 10), [0, 3, 5, 8, 10])
        self.assertEqual(steps(0, 4, 10, 0), [10, 8, 5, 3, 0])
        self.assertEqual(steps(0, 4, 0, -10), [0, -2, -5, -7, -10])
        self.assertEqual(steps(0, 5, -7, -2), [-7, -6, -5, -4, -3, -2])

    def test_in(self):
        self.assertEqual(steps(1, 4, 0, 10), [0, 1, 3, 6, 10])
        self.assertEqual(steps(1, 4, 10, 0), [10, 9, 8, 4, 0])
        self.assertEqual(steps(1, 4, 0, -10), [0, -1, -2, -6, -10])
        self.assertEqual(steps(1, 5, -25, 0), [-25, -24, -21, -16, -9, 0])

    def test_out(self):
        self.assertEqual(steps(2, 4, 0, 10), [0, 4, 8, 9, 10])
        self.assertEqual(steps(2, 4, 10, 0), [10, 6, 3, 1, 0])
        self.assertEqual(steps(2, 4, 0, -10), [0, -4, -7, -9, -10])
        self.assertEqual(steps(2, 5, -25, 0), [-25, -16, -9, -4, -1, 0])

    def test_both(self):
        self.assertEqual(steps(3, 4, 0, 10), [0, 2, 5, 8, 10])
        self.assertEqual(steps(3, 4, 10, 0), [10, 8, 5, 2, 0])
        self.assertEqual(steps(3, 4, 0, -10), [0, -2, -5, -8, -10])
        self.assertEqual(steps(3, 5, 0, 125), [0, 13, 44, 81, 112, 125])

    def test_halves_go_to_the_greater_number(self):
        for e in (0, 3):
            for a, b, half in ((0, 1, 1), (1, 0, 1), (0, -1, 0), (-1, 0, 0), (-1, -2, -1), (-2, -1, -1), (-3, 0, -1),
                               (0, -3, -1), (-8, -5, -6), (-9999, 9998, 0), (9998, -9999, 0)):
                self.assertEqual(ease(e, 2, 1, a, b), [half], (e, a, b))
        for a, b, half in ((0, 2, 1), (2, 0, 2), (0, -2, 0), (-2, 0, -1), (0, -6, -1), (-6, 0, -4)):
            self.assertEqual(ease(1, 2, 1, a, b), [half], (a, b))
        for a, b, half in ((0, 2, 2), (2, 0, 1), (0, -2, -1), (-2, 0, 0), (0, -6, -4), (-6, 0, -1)):
            self.assertEqual(ease(2, 2, 1, a, b), [half], (a, b))

    def test_just_beside_a_half(self):
        # 511 and 512 of 1,023 steps lie on both sides of the half; a fraction with less than its digits would not tell.
        self.assertEqual(steps(0, 1023, 0, 1)[511:513], [0, 1])
        self.assertEqual(steps(0, 1023, 0, -1)[511:513], [0, -1])
        self.assertEqual(steps(3, 1023, 0, 1)[511:513], [0, 1])
        self.assertEqual(steps(3, 1023, 0, -1)[511:513], [0, -1])

    def test_nothing_to_go(self):
        for e in range(4):
            for a in (-9999, -1, 0, 5, 9999):
                self.assertEqual(steps(e, 7, a, a), [a] * 8)

    def test_one_step(self):
        for e in range(4):
            for a, b in WAYS:
                self.assertEqual(ease(e, 1, 0, a, b), [a])
                self.assertEqual(ease(e, 1, 1, a, b), [b])

    def test_the_most_steps(self):
        for e in range(4):
            for a, b in WAYS:
                self.assertEqual(ease(e, 1023, 0, a, b), [a])
                self.assertEqual(ease(e, 1023, 1023, a, b), [b])

    def test_a_value_that_is_alike_to_a_refusal(self):
        for number in (-1, -2, -4, -6):
            self.assertEqual(ease(0, 2, 1, number, number), [number])

    def test_against_the_reference(self):
        source = random.Random(9)
        for round_number in range(4000):
            n = source.choice((1, 2, 3, 4, 10, 64, 1022, 1023, source.randint(1, 1023)))
            i = source.choice((0, n, n // 2, source.randint(0, n)))
            a, b = (source.choice((-9999, 9999, 0, source.randint(-9, 9), source.randint(-9999, 9999))) for k in "ab")
            e = source.randrange(4)
            self.assertEqual(ease(e, n, i, a, b), [reference_eased(EASES[e], n, i, a, b)], (e, n, i, a, b))

    def test_a_move_goes_so(self):
        for e in range(4):
            for a, b in ((-50, 30), (99, -99)):
                t = data("camera a 14 1 1\ndial x %d 0-13:%d/%s\n" % (a, b, EASES[e]))
                self.assertEqual(steps(e, 13, a, b), [value(f, t, data("x"))[0] for f in range(14)])


class Eased(unittest.TestCase):
    """F2: a first, b last, always between, never back; and the same from b to a, backwards."""

    COUNTS = (1, 2, 3, 5, 8, 99, 100, 1022, 1023)

    def test_from_a_to_b(self):
        for e in range(4):
            for n in self.COUNTS:
                for a, b in WAYS:
                    found = steps(e, n, a, b)
                    self.assertEqual((found[0], found[-1]), (a, b), (e, n, a, b))
                    self.assertTrue(min(a, b) <= min(found) and max(found) <= max(a, b), (e, n, a, b))
                    self.assertEqual(found, sorted(found, reverse=b < a), (e, n, a, b))

    def test_backwards(self):
        for e in range(4):
            other = EASES.index(BACKWARDS[EASES[e]])
            for n in self.COUNTS:
                for a, b in WAYS:
                    self.assertEqual(steps(e, n, a, b), steps(other, n, b, a)[::-1], (e, n, a, b))


class Refusals(unittest.TestCase):
    def refused(self, *handed):
        for e, n, i, a, b in handed:
            with self.subTest(e=e, n=n, i=i, a=a, b=b):
                self.assertEqual(ease(e, n, i, a, b), [-1])

    def test_no_such_ease(self):
        self.assertEqual(ease(3, 4, 1, 0, 10), [2])
        self.refused(*((e, 4, 1, 0, 10) for e in (4, 5, 256, GREATEST)))

    def test_how_many_steps(self):
        for e in range(4):
            self.refused(*((e, n, 0, 0, 10) for n in (0, 1024, 1025, 65536, GREATEST)))

    def test_no_such_step(self):
        for e in range(4):
            for n in (1, 2, 4, 1022, 1023):
                self.refused(*((e, n, i, 0, 10) for i in (n + 1, n + 2, 2 * n + 1, GREATEST)))

    def test_all_steps_of_none(self):
        self.refused((0, 0, 0, 0, 0), (0, 0, 1, 0, 0), (0, 1024, 1024, 0, 0), (0, GREATEST, GREATEST, 0, 0))

    def test_values(self):
        for wrong in (-10000, 10000, -10001, 10001, -32768, 65536, LEAST_GIVEN, MOST_GIVEN):
            for e in range(4):
                self.refused(*((e, 4, i, wrong, 0) for i in (0, 1, 4)))
                self.refused(*((e, 4, i, 0, wrong) for i in (0, 1, 4)))
                self.refused((e, 4, 1, wrong, wrong))

    def test_the_last_that_are_right(self):
        for e in range(4):
            for a in (-9999, 9999):
                for b in (-9999, 9999):
                    self.assertEqual(ease(e, 1023, 1023, a, b), [b])
                    self.assertEqual(ease(e, 1023, 0, a, b), [a])

    def test_all_wrong(self):
        self.refused((GREATEST, GREATEST, GREATEST, LEAST_GIVEN, MOST_GIVEN), (4, 0, 1, 10000, -10000))

    def test_answers_are_lists_of_whole_numbers(self):
        for handed in ((0, 4, 1, 0, 10), (3, 4, 1, -7, 10), (4, 4, 1, 0, 10), (0, 0, 0, 0, 0)):
            answer = ease(*handed)
            self.assertIs(type(answer), list)
            self.assertEqual([type(number) for number in answer], [int])


if __name__ == "__main__":
    unittest.main()
