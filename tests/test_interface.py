"""The interface: what is handed in and given back."""

import contextlib
import io
import unittest

from settingsbook.desk import answers
from tests.helper import begin, kind, read, show

CALLS = (begin() + read("a = 1\n[b]\nc = ['x', {d = 2}]") + show() + show("b.c", 3) + kind("b.c") + read("a") + kind("z") + begin() + show()
         + read("[[q]]\n") + kind("q"))


class TheInterface(unittest.TestCase):
    def test_number_by_number(self):
        self.assertEqual(answers([0]), [1, 0])
        self.assertEqual(answers([0, 1, 0]), [1, 0, 1, 0])
        self.assertEqual(answers([0, 1, 3, 97, 61, 49]), [1, 0, 1, 0])
        self.assertEqual(answers([0, 1, 1, 97]), [1, 0, 1, -1])
        self.assertEqual(answers([0, 1, 3, 97, 61, 49, 2, 100, 0]), [1, 0, 1, 0, 8, 7, 123, 34, 97, 34, 58, 49, 125])
        self.assertEqual(answers([0, 1, 3, 97, 61, 49, 2, 100, 1, 97]), [1, 0, 1, 0, 2, 1, 49])
        self.assertEqual(answers([0, 1, 3, 97, 61, 49, 2, 6, 0]), [1, 0, 1, 0, 1, -2])
        self.assertEqual(answers([0, 1, 3, 97, 61, 49, 3, 0]), [1, 0, 1, 0, 2, 7, 1])
        self.assertEqual(answers([0, 1, 3, 97, 61, 49, 3, 1, 98]), [1, 0, 1, 0, 1, -1])
        self.assertEqual(answers([0, 2, 100, 0, 3, 0]), [1, 0, 1, -4, 1, -4])

    def test_no_calls(self):
        self.assertEqual(answers([]), [])

    def test_calls_go_on_behind_a_refusal(self):
        calls = begin() + show("a.b") + read("\x00") + kind("''") + show("a", -7) + read("a=true") + show("a", 3) + show("a", 4)
        self.assertEqual(answers(calls), [1, 0, 1, -4, 1, -1, 1, -4, 1, -4, 1, 0, 1, -2, 5, 4] + list(b"true"))

    def test_what_is_handed_in_stays_as_it_was(self):
        calls = list(CALLS)
        answers(calls)
        self.assertEqual(calls, CALLS)

    def test_the_same_calls_twice(self):
        self.assertEqual(answers(list(CALLS)), answers(list(CALLS)))

    def test_nothing_is_kept_from_one_time_to_the_next(self):
        answers(begin() + read("a = 1"))
        self.assertEqual(answers(begin() + show()), [1, 0, 1, -4])

    def test_what_is_given_back_is_a_new_list_of_whole_numbers(self):
        given = answers(list(CALLS))
        self.assertIs(type(given), list)
        self.assertEqual({type(number) for number in given}, {int})
        again = answers(list(CALLS))
        given.clear()
        self.assertEqual(answers(list(CALLS)), again)

    def test_showing_changes_nothing(self):
        text = read("a = [1, {b = 2}]\n[c.d]\n[[e]]")
        once = answers(begin() + text + show())
        self.assertEqual(answers(begin() + text + show() + show())[-len(once[4:]):], once[4:])
        twice = answers(begin() + text + show() + kind("a.1") + show("c.d") + show())
        self.assertEqual(twice[-len(once[4:]):], once[4:])

    def test_it_prints_nothing(self):
        caught = io.StringIO()
        with contextlib.redirect_stdout(caught), contextlib.redirect_stderr(caught):
            answers(list(CALLS))
        self.assertEqual(caught.getvalue(), "")

    def test_forty_calls_and_many_numbers(self):
        text = read("k='" + "\t" * 16380 + "'")
        calls = begin() + text + (show("", 1048576) * 38)
        given = answers(calls)
        self.assertEqual(len(given), 4 + 38 * (2 + 16380 * 6 + 8))

    def test_few_calls_within_one_another(self):
        deep = "[" * 32 + "]" * 32
        text = "[" + "a." * 7000 + "a]\nb = " + deep
        calls = begin() + read(text) + show() + show("a" + ".a" * 2047) + kind("a" + ".a" * 2047)

        def call_from(depth):
            return answers(calls) if depth == 0 else call_from(depth - 1)

        self.assertEqual(call_from(500)[:4], [1, 0, 1, 0])


if __name__ == "__main__":
    unittest.main()
