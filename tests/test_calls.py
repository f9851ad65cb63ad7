"""Each call stands by itself: it changes nothing, keeps nothing, prints nothing."""

import contextlib
import copy
import io
import unittest

from fieldsheets.field import dial, ease, judge, move, name, range_of, see, shot, sizes, value
from tests.helper import GREATEST, data, row_of_levels, row_of_named

TEXTS = (
    "camera a 10 2 3\ndial x 0 0-9:-5/in\ndial zoom 64\n",
    "camera b 1 1 1\n",
    "camera a 10 2 3\ndial x 0 0-9:-5/in\ndial x 64\n",
    "camera a 10 2",
    "",
    "c" * 65536,
    "c" * 65537,
)
SHEETS = row_of_named([("hill", 2, 3, [0, 1, 2, 3, 4, 255]), ("a", 1, 1, [9]), ("hill", 1, 2, [7, 8])])
LEVELS = row_of_levels([(2, 3, -1, 1, [0, 1, 2, 3, 4, 255]), (1, 1, 0, 0, [9])])
# A call and what is handed over to it beside the text, by its names.
ON_TEXTS = (
    (judge, {}),
    (sizes, {}),
    (name, {"k": 0}),
    (name, {"k": 1}),
    (name, {"k": GREATEST}),
    (dial, {"k": 0}),
    (dial, {"k": 1}),
    (dial, {"k": GREATEST}),
    (move, {"k": 0, "i": 0}),
    (move, {"k": 1, "i": 0}),
    (move, {"k": GREATEST, "i": GREATEST}),
    (value, {"f": 0, "s": data("x")}),
    (value, {"f": 5, "s": data("x")}),
    (value, {"f": 5, "s": data("hill.x")}),
    (value, {"f": GREATEST, "s": data("zoom")}),
    (value, {"f": 0, "s": data("hill")}),
    (value, {"f": 0, "s": []}),
    (range_of, {"s": data("x")}),
    (range_of, {"s": data("hill.x")}),
    (range_of, {"s": data("hill")}),
    (shot, {"f": 0, "l": SHEETS}),
    (shot, {"f": 9, "l": SHEETS}),
    (shot, {"f": GREATEST, "l": SHEETS}),
    (shot, {"f": 0, "l": SHEETS[:-1]}),
    (shot, {"f": 0, "l": []}),
)
ON_NUMBERS = (
    (ease, {"e": 3, "n": 4, "i": 1, "a": -5, "b": 9}),
    (ease, {"e": 4, "n": 4, "i": 1, "a": -5, "b": 9}),
    (ease, {"e": GREATEST, "n": GREATEST, "i": GREATEST, "a": 0, "b": 0}),
    (see, {"cx": 1, "cy": 1, "zoom": 64, "width": 3, "height": 2, "l": LEVELS}),
    (see, {"cx": -1, "cy": 1, "zoom": 100, "width": 2, "height": 5, "l": []}),
    (see, {"cx": 1, "cy": 1, "zoom": 0, "width": 3, "height": 2, "l": LEVELS}),
    (see, {"cx": 1, "cy": 1, "zoom": 64, "width": 3, "height": 2, "l": LEVELS[:-1]}),
)
CALLS = tuple((call, dict(rest, t=data(text))) for call, rest in ON_TEXTS for text in TEXTS) + ON_NUMBERS


class Held(list):
    """A list that fails whoever changes it."""

    def refuse(self, *given):
        raise AssertionError("what is handed in is changed")

    append = extend = insert = pop = remove = clear = sort = reverse = refuse
    __setitem__ = __delitem__ = __iadd__ = __imul__ = refuse


class Calls(unittest.TestCase):
    def test_what_is_handed_in_is_not_changed(self):
        for call, handed in CALLS:
            given = copy.deepcopy(handed)
            call(**given)
            self.assertEqual(given, handed)

    def test_what_is_handed_in_is_not_changed_for_a_while_either(self):
        for call, handed in CALLS:
            held = {key: Held(each) if isinstance(each, list) else each for key, each in handed.items()}
            self.assertEqual(call(**held), call(**handed))

    def test_a_second_call_answers_the_same(self):
        for call, handed in CALLS:
            given = copy.deepcopy(handed)
            self.assertEqual(call(**given), call(**given))

    def test_what_was_called_before_is_of_no_matter(self):
        once = [call(**copy.deepcopy(handed)) for call, handed in CALLS]
        again = [call(**copy.deepcopy(handed)) for call, handed in reversed(CALLS)]
        self.assertEqual(once, list(reversed(again)))

    def test_an_answer_that_is_changed_changes_no_later_one(self):
        for call, handed in CALLS:
            given = copy.deepcopy(handed)
            answer = call(**given)
            kept = list(answer)
            answer.append(7)
            answer[0] = 99
            self.assertEqual(call(**given), kept)
            self.assertEqual(given, handed)

    def test_nothing_is_printed(self):
        printed = io.StringIO()
        with contextlib.redirect_stdout(printed), contextlib.redirect_stderr(printed):
            for call, handed in CALLS:
                call(**copy.deepcopy(handed))
        self.assertEqual(printed.getvalue(), "")

    def test_arguments_go_by_their_names_and_by_their_order(self):
        t = data(TEXTS[0])
        self.assertEqual(judge(t), judge(t=t))
        self.assertEqual(sizes(t), sizes(t=t))
        self.assertEqual(name(1, t), name(k=1, t=t))
        self.assertEqual(dial(1, t), dial(k=1, t=t))
        self.assertEqual(move(0, 0, t), move(k=0, i=0, t=t))
        self.assertEqual(value(5, t, data("x")), value(f=5, t=t, s=data("x")))
        self.assertEqual(range_of(t, data("x")), range_of(t=t, s=data("x")))
        self.assertEqual(ease(1, 7, 3, -5, 90), ease(e=1, n=7, i=3, a=-5, b=90))
        self.assertEqual(see(1, 0, 64, 3, 2, LEVELS), see(cx=1, cy=0, zoom=64, width=3, height=2, l=LEVELS))
        self.assertEqual(shot(5, t, SHEETS), shot(f=5, t=t, l=SHEETS))


if __name__ == "__main__":
    unittest.main()
