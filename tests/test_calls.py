"""Each call stands by itself: it changes nothing, keeps nothing, prints nothing."""

import contextlib
import io
import unittest

from fieldsheets.field import judge, sizes
from tests.helper import data

TEXTS = (
    "camera a 10 2 3\ndial x 0 0-9:-5/in\ndial zoom 64\n",
    "camera b 1 1 1\n",
    "camera a 10 2 3\ndial x 0 0-9:-5/in\ndial x 64\n",
    "camera a 10 2",
    "",
    "c" * 65536,
    "c" * 65537,
)


class Calls(unittest.TestCase):
    def test_what_is_handed_in_is_not_changed(self):
        for call in (judge, sizes):
            for text in TEXTS:
                t = data(text)
                call(t)
                self.assertEqual(t, data(text))

    def test_a_second_call_answers_the_same(self):
        for call in (judge, sizes):
            for text in TEXTS:
                t = data(text)
                self.assertEqual(call(t), call(t))

    def test_what_was_called_before_is_of_no_matter(self):
        for call in (judge, sizes):
            once = [call(data(text)) for text in TEXTS]
            again = [call(data(text)) for text in reversed(TEXTS)]
            self.assertEqual(once, list(reversed(again)))

    def test_an_answer_that_is_changed_changes_no_later_one(self):
        for call in (judge, sizes):
            for text in TEXTS:
                answer = call(data(text))
                kept = list(answer)
                answer.append(7)
                answer[0] = 99
                self.assertEqual(call(data(text)), kept)

    def test_nothing_is_printed(self):
        printed = io.StringIO()
        with contextlib.redirect_stdout(printed), contextlib.redirect_stderr(printed):
            for text in TEXTS:
                judge(data(text))
                sizes(data(text))
        self.assertEqual(printed.getvalue(), "")

    def test_arguments_go_by_their_names(self):
        self.assertEqual(judge(t=data(TEXTS[1])), [0])
        self.assertEqual(sizes(t=data(TEXTS[1])), [1, 1, 1, 0])


if __name__ == "__main__":
    unittest.main()
