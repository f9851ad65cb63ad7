"""Each call stands by itself: it changes nothing, keeps nothing, prints nothing."""

import contextlib
import copy
import io
import unittest

from fieldsheets.field import dial, judge, move, name, sizes, value
from tests.helper import GREATEST, data

TEXTS = (
    "camera a 10 2 3\ndial x 0 0-9:-5/in\ndial zoom 64\n",
    "camera b 1 1 1\n",
    "camera a 10 2 3\ndial x 0 0-9:-5/in\ndial x 64\n",
    "camera a 10 2",
    "",
    "c" * 65536,
    "c" * 65537,
)
# A call and what is handed over to it beside the text, by its names.
CALLS = (
    (judge, {}),
    (sizes, {}),
    (name, {"k": 0}),
    (name, {"k": 1}),
    (name, {"k": GREATEST}),
    (dial, {"k": 0}),
    (dial, {"k": 1}),
    (dial, {"k": GREATEST}),
    (move, {"k": 0, "i": 0}),
    (move, {"k": 1, "i": 0}),
    (move, {"k": GREATEST, "i": GREATEST}),
    (value, {"f": 0, "s": data("x")}),
    (value, {"f": 5, "s": data("x")}),
    (value, {"f": 5, "s": data("hill.x")}),
    (value, {"f": GREATEST, "s": data("zoom")}),
    (value, {"f": 0, "s": data("hill")}),
    (value, {"f": 0, "s": []}),
)


class Calls(unittest.TestCase):
    def test_what_is_handed_in_is_not_changed(self):
        for call, rest in CALLS:
            for text in TEXTS:
                t = data(text)
                handed = copy.deepcopy(rest)
                call(t=t, **handed)
                self.assertEqual(t, data(text))
                self.assertEqual(handed, rest)

    def test_a_second_call_answers_the_same(self):
        for call, rest in CALLS:
            for text in TEXTS:
                t = data(text)
                self.assertEqual(call(t=t, **rest), call(t=t, **rest))

    def test_what_was_called_before_is_of_no_matter(self):
        pairs = [(call, rest, text) for call, rest in CALLS for text in TEXTS]
        once = [call(t=data(text), **rest) for call, rest, text in pairs]
        again = [call(t=data(text), **rest) for call, rest, text in reversed(pairs)]
        self.assertEqual(once, list(reversed(again)))

    def test_an_answer_that_is_changed_changes_no_later_one(self):
        for call, rest in CALLS:
            for text in TEXTS:
                t = data(text)
                handed = copy.deepcopy(rest)
                answer = call(t=t, **handed)
                kept = list(answer)
                answer.append(7)
                answer[0] = 99
                self.assertEqual(call(t=t, **handed), kept)
                self.assertEqual(t, data(text))
                self.assertEqual(handed, rest)

    def test_nothing_is_printed(self):
        printed = io.StringIO()
        with contextlib.redirect_stdout(printed), contextlib.redirect_stderr(printed):
            for call, rest in CALLS:
                for text in TEXTS:
                    call(t=data(text), **rest)
        self.assertEqual(printed.getvalue(), "")

    def test_arguments_go_by_their_names_and_by_their_order(self):
        t = data(TEXTS[0])
        self.assertEqual(judge(t), judge(t=t))
        self.assertEqual(sizes(t), sizes(t=t))
        self.assertEqual(name(1, t), name(k=1, t=t))
        self.assertEqual(dial(1, t), dial(k=1, t=t))
        self.assertEqual(move(0, 0, t), move(k=0, i=0, t=t))
        self.assertEqual(value(5, t, data("x")), value(f=5, t=t, s=data("x")))


if __name__ == "__main__":
    unittest.main()
