"""Promise 4: kind."""

import unittest

from tests.helper import ask, begin, kind, kind_at, read


class Kinds(unittest.TestCase):
    def test_a_text_and_how_many_bytes(self):
        for value, count in (('""', 0), ("'abc'", 3), ('"\u00e9"', 2), (r'"\u00e9"', 2), (r'"\U0001F600"', 4), (r'"\n\"\\"', 3), (r"'\n'", 2),
                             ('"""\na\r\nb"""', 3), ('"""a\\\n  b"""', 2), ("'''\n'x''''", 3), (r'"\u0000"', 1), ('"\u20ac"', 3)):
            self.assertEqual(kind_at("k = " + value, "k"), [1, count], value)
        self.assertEqual(kind_at("k = '" + "x" * 16000 + "'", "k"), [1, 16000])

    def test_a_whole_number(self):
        for value in ("0", "-5", "+9223372036854775807", "0xff", "0o7", "0b1", "1_000"):
            self.assertEqual(kind_at("k = " + value, "k"), [2, 0], value)

    def test_a_decimal_inf_or_nan(self):
        for value in ("0.0", "-1.5", "1e5", "1.5E-999999999", "inf", "-inf", "+nan", "nan", "100.0"):
            self.assertEqual(kind_at("k = " + value, "k"), [3, 0], value)

    def test_true_or_false(self):
        for value in ("true", "false"):
            self.assertEqual(kind_at("k = " + value, "k"), [4, 0], value)

    def test_a_day_or_hour(self):
        for value in ("1979-05-27", "07:32:00", "07:32:00.5", "1979-05-27T07:32:00", "1979-05-27 07:32:00", "1979-05-27 07:32:00z",
                      "1979-05-27t07:32:00.25-07:00"):
            self.assertEqual(kind_at("k = " + value, "k"), [5, 0], value)

    def test_an_array_and_how_many_values(self):
        for value, count in (("[]", 0), ("[1]", 1), ("[1, 2,]", 2), ("[[1, 2, 3], []]", 2), ("[\n# c\n]", 0), ("[{a = 1, b = 2}]", 1)):
            self.assertEqual(kind_at("k = " + value, "k"), [6, count], value)
        self.assertEqual(kind_at("[[k]]\n[[k]]\n[[k]]", "k"), [6, 3])

    def test_a_table_and_how_many_keys(self):
        for text, count in (("[k]", 0), ("k = {}", 0), ("k = {a = 1, b.c = 2, b.d = 3}", 2), ("k.a = 1\nk.b = 2\nk.c.d = 3", 3),
                            ("[k]\na = 1\n[k.b.c]\n[[k.d]]", 3), ("[k.a]", 1)):
            self.assertEqual(kind_at(text, "k"), [7, count], text)
        self.assertEqual(kind_at("[[k]]\na = 1\nb = 2", "k.0"), [7, 2])

    def test_the_root(self):
        self.assertEqual(kind_at(""), [7, 0])
        self.assertEqual(kind_at("a.b = 1\na.c = 2\n[d]\n[[e]]\n[[e]]"), [7, 3])

    def test_within(self):
        text = "[t]\na = [1, 'xy', [true], {k = 1.5}]"
        for way, answer in (("t", [7, 1]), ("t.a", [6, 4]), ("t.a.0", [2, 0]), ("t.a.1", [1, 2]), ("t.a.2", [6, 1]), ("t.a.00002 . 0 ", [4, 0]),
                            ("t . 'a' . \"3\"", [7, 1]), ("t.a.3.k", [3, 0])):
            self.assertEqual(kind_at(text, way), answer, way)


class Refusals(unittest.TestCase):
    def test_nothing_is_read(self):
        self.assertEqual(ask(begin(), kind(), kind("a"), kind(".")), [[0], [-4], [-4], [-4]])

    def test_no_key(self):
        for way in (" ", " k", ".", "k.", ".k", "k k", "k=", "k\n", '"k', "[k]", "k#", "'''k'''", "\u00e9", '"\\x"'):
            self.assertEqual(kind_at("k = 1", way), [-1], way)

    def test_to_nothing(self):
        for way in ("x", "K", "k.0", "k.k", '""', "a.2", "a.-1", "a.000000", "a.x", "a.0.0"):
            self.assertEqual(kind_at("k = 1\na = [1, 2]", way), [-1], way)

    def test_a_way_that_is_too_long(self):
        self.assertEqual(kind_at("k = 1", "k" + " " * 4095), [2, 0])
        self.assertEqual(kind_at("k = 1", "k" + " " * 4096), [-1])

    def test_changes_nothing(self):
        self.assertEqual(ask(begin(), read("a = 1"), kind("b"), kind("a")), [[0], [0], [-1], [2, 0]])


if __name__ == "__main__":
    unittest.main()
