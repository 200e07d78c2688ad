"""Promise 1: begin."""

import unittest

from settingsbook.desk import answers
from tests.helper import ask, begin, kind, read, show


class Begin(unittest.TestCase):
    def test_answers_nought(self):
        self.assertEqual(answers([0]), [1, 0])

    def test_nothing_is_read_at_the_beginning(self):
        self.assertEqual(ask(begin(), show(), kind()), [[0], [-4], [-4]])
        self.assertEqual(ask(begin(), show("a"), kind("a")), [[0], [-4], [-4]])

    def test_nothing_is_read_behind_a_second_begin(self):
        given = ask(begin(), read("a = 1"), kind("a"), begin(), show("a"), kind("a"), show(), kind())
        self.assertEqual(given, [[0], [0], [2, 0], [0], [-4], [-4], [-4], [-4]])

    def test_reading_behind_a_second_begin(self):
        given = ask(begin(), read("a = 1"), begin(), read("b = true"), kind("a"), kind("b"))
        self.assertEqual(given, [[0], [0], [0], [0], [-1], [4, 0]])

    def test_begin_twice_in_a_row(self):
        self.assertEqual(ask(begin(), begin(), kind()), [[0], [0], [-4]])

    def test_nothing_is_read_by_a_read_that_is_refused(self):
        self.assertEqual(ask(begin(), read("a"), show(), kind()), [[0], [-1], [-4], [-4]])

    def test_before_anything_is_read_it_comes_ahead_of_the_other_refusals(self):
        self.assertEqual(ask(begin(), show("."), kind("."), show("", 0)), [[0], [-4], [-4], [-4]])

    def test_a_text_that_says_nothing_is_read_all_the_same(self):
        self.assertEqual(ask(begin(), read(""), show(), kind()), [[0], [0], [2, 123, 125], [7, 0]])

    def test_no_calls_at_all(self):
        self.assertEqual(answers([]), [])


if __name__ == "__main__":
    unittest.main()
