"""Promise 2: whole numbers, decimals, inf and nan, true and false."""

import unittest

from tests.helper import Checks, kind_at


class WholeNumbers(Checks, unittest.TestCase):
    def test_by_ten(self):
        for value, form in (("0", "0"), ("7", "7"), ("42", "42"), ("+42", "42"), ("-42", "-42"), ("-17", "-17"),
                            ("10", "10"), ("1234567890", "1234567890")):
            self.value_says(value, form)

    def test_nought_has_no_sign(self):
        self.value_says("+0", "0")
        self.value_says("-0", "0")

    def test_both_ends_of_the_range(self):
        self.value_says("9223372036854775807", "9223372036854775807")
        self.value_says("+9223372036854775807", "9223372036854775807")
        self.value_says("-9223372036854775808", "-9223372036854775808")
        self.value_is_wrong("9223372036854775808")
        self.value_is_wrong("+9223372036854775808")
        self.value_is_wrong("-9223372036854775809")
        self.value_is_wrong("10000000000000000000")
        self.value_is_wrong("18446744073709551616")
        self.value_is_wrong("-18446744073709551615")

    def test_digits_by_the_thousand(self):
        self.is_wrong("k = " + "1" * 16000)
        self.is_wrong("k = -" + "9" * 16000)
        self.is_wrong("k = 0x" + "f" * 16000)
        self.says("k = 0b" + "0" * 16000 + "101", "5", "k")

    def test_by_sixteen_eight_and_two(self):
        for value, form in (("0x0", "0"), ("0xDEADBEEF", "3735928559"), ("0xdeadbeef", "3735928559"),
                            ("0xdEaD_bEeF", "3735928559"), ("0x0123456789abcdef", "81985529216486895"),
                            ("0o0", "0"), ("0o01234567", "342391"), ("0o755", "493"), ("0o7_5_5", "493"),
                            ("0b0", "0"), ("0b11010110", "214"), ("0b1101_0110", "214"), ("0x00ff", "255"),
                            ("0o0017", "15"), ("0b0001", "1")):
            self.value_says(value, form)

    def test_both_ends_by_sixteen_eight_and_two(self):
        self.value_says("0x7FFFFFFFFFFFFFFF", "9223372036854775807")
        self.value_is_wrong("0x8000000000000000")
        self.value_is_wrong("0xFFFFFFFFFFFFFFFF")
        self.value_says("0o777777777777777777777", "9223372036854775807")
        self.value_is_wrong("0o1000000000000000000000")
        self.value_says("0b" + "1" * 63, "9223372036854775807")
        self.value_is_wrong("0b1" + "0" * 63)

    def test_wrong_by_sixteen_eight_and_two(self):
        for value in ("0x", "0o", "0b", "0X1", "0O1", "0B1", "0xg", "0o8", "0b2", "+0x1", "-0x1", "+0o1", "-0b1",
                      "0x_1", "0_x1", "0x1_", "0x1__2", "0x-1", "0x+1", "00x1", "1x1", "0x1.0", "0b1e1", "0o1.5", "0xp",
                      "0xG", "0x@", "0x`", "0x/", "0x:", "0o9", "0oa", "0ba"):
            self.value_is_wrong(value)

    def test_one_underscore_between_two_digits(self):
        self.value_says("1_000", "1000")
        self.value_says("1_2_3_4", "1234")
        self.value_says("-1_0", "-10")
        for value in ("_1", "1_", "1__0", "+_1", "-_1", "1_-", "_", "__", "1_000_", "0_0"):
            self.value_is_wrong(value)

    def test_the_first_digit_is_no_nought(self):
        for value in ("00", "01", "+01", "-01", "-00", "+00", "0_1", "007", "0_0"):
            self.value_is_wrong(value)

    def test_other_signs(self):
        for value in ("+", "-", "++1", "--1", "+-1", "1a", "a1", "1+1", "1-", "1+", "0a", "-a", "1:", "x", "1'", "1\"", "1@", "1`", "1/",
                      "1e", "A", "1A", "1f"):
            self.value_is_wrong(value)
        self.value_is_wrong("\u0661")
        self.value_is_wrong("1\u0661")
        self.value_is_wrong("1 1")
        self.value_is_wrong("- 1")


class Decimals(Checks, unittest.TestCase):
    def test_point_and_digits(self):
        for value, form in (("1.5", "15e-1"), ("+1.5", "15e-1"), ("-1.5", "-15e-1"), ("3.1415", "31415e-4"),
                            ("-0.01", "-1e-2"), ("0.5", "5e-1"), ("10.0", "1e1"), ("100.00", "1e2"), ("1.0", "1e0"),
                            ("12.50", "125e-1"), ("0.00100", "1e-3"), ("120.0", "12e1"), ("1.000001", "1000001e-6"),
                            ("1.007", "1007e-3")):
            self.value_says(value, form)

    def test_powers(self):
        for value, form in (("1e3", "1e3"), ("1E3", "1e3"), ("1e+3", "1e3"), ("1e-3", "1e-3"), ("-2E-2", "-2e-2"),
                            ("5e+22", "5e22"), ("10e0", "1e1"), ("1e06", "1e6"), ("1e-0", "1e0"), ("1e+0", "1e0"),
                            ("1e00", "1e0"), ("250e-2", "25e-1"), ("+1e1", "1e1")):
            self.value_says(value, form)

    def test_both(self):
        for value, form in (("6.626e-34", "6626e-37"), ("1.5e3", "15e2"), ("-1.50E+1", "-15e0"), ("0.1e1", "1e0"),
                            ("12.34e0", "1234e-2")):
            self.value_says(value, form)

    def test_nought(self):
        for value in ("0.0", "+0.0", "0e0", "0E5", "0.000e-7", "0e999999999", "0.0e+1"):
            self.value_says(value, "0e0")
        for value in ("-0.0", "-0e0", "-0.000e-7"):
            self.value_says(value, "-0e0")

    def test_powers_of_nine_digits_and_of_ten(self):
        self.value_says("1e999999999", "1e999999999")
        self.value_says("1e-999999999", "1e-999999999")
        self.value_says("1e+999999999", "1e999999999")
        self.value_says("10e999999999", "1e1000000000")
        self.value_says("0.1e-999999999", "1e-1000000000")
        self.value_says("1e000000001", "1e1")
        self.value_says("1e9_9_9_9_9_9_9_9_9", "1e999999999")
        self.value_says("1.0e123_456_789", "1e123456789")
        for value in ("1e1000000000", "1e0000000001", "1e-1000000000", "1.5e+0000000000", "0e1000000000",
                      "1e1_0000_00000"):
            self.value_is_wrong(value)

    def test_digits_by_the_thousand(self):
        self.says("k = " + "1" * 8000 + "." + "2" * 8000, "1" * 8000 + "2" * 8000 + "e-8000", "k")
        self.says("k = 1" + "0" * 16000 + ".0", "1e16000", "k")
        self.says("k = 0." + "0" * 16000 + "1", "1e-16001", "k")
        self.says("k = -0." + "0" * 16000, "-0e0", "k")
        self.says("k = 7" + "0" * 10000 + "e-10000", "7e0", "k")
        self.says("k = 1" + "_0" * 5000 + "e1", "1e5001", "k")

    def test_underscores(self):
        self.value_says("1_0.0_5", "1005e-2")
        self.value_says("1_0e1_0", "1e11")
        self.value_says("9_224_617.445_991_228_313", "9224617445991228313e-12")
        for value in ("_1.5", "1_.5", "1._5", "1.5_", "1__0.5", "1.5__5", "1_e5", "1e_5", "1e5_", "1e1__0", "1e+_1",
                      "1.5_e1", "1.5e_1"):
            self.value_is_wrong(value)

    def test_something_is_missing(self):
        for value in ("1.", ".5", "+.5", "-.5", "1.e5", "1e", "1e+", "1e-", "e5", ".", "-e1", "1.5e", "1.5e+", ".e1",
                      "+.", "1.+5"):
            self.value_is_wrong(value)

    def test_something_is_too_much(self):
        for value in ("1.5.5", "1e5e5", "1e5.5", "1.5f", "1.5e5x", "--1.5", "+-1.5", "1e++5", "1e--5", "1e+-5", "1,5.",
                      "1.a", "1ea", "1e1a", "1e1F", "1.0e0x1", "1.-5", "1 .5", "1. 5", "1e 5"):
            self.value_is_wrong(value)

    def test_first_nought(self):
        self.value_says("0.05", "5e-2")
        for value in ("00.5", "01.5", "-01.5", "+00.5", "01e5", "00e0", "-00e1", "0_1.5", "0_0.0"):
            self.value_is_wrong(value)


class InfAndNan(Checks, unittest.TestCase):
    def test_as_they_are_allowed(self):
        for value, form in (("inf", "inf"), ("+inf", "inf"), ("-inf", "-inf"), ("nan", "nan"), ("+nan", "nan"),
                            ("-nan", "nan")):
            self.value_says(value, form)

    def test_as_they_are_not(self):
        for value in ("Inf", "INF", "NaN", "NAN", "infinity", "++inf", "--inf", "inf0", "in", "na", "inf.0", "1inf",
                      "- inf", "infe1", "nan1"):
            self.value_is_wrong(value)


class TrueAndFalse(Checks, unittest.TestCase):
    def test_as_they_are_allowed(self):
        self.value_says("true", "true")
        self.value_says("false", "false")

    def test_as_they_are_not(self):
        for value in ("True", "False", "TRUE", "tru", "truee", "fals", "falsee", "+true", "-false", "true1", "yes",
                      "t", "f", "true false", "true_", "null", "none"):
            self.value_is_wrong(value)


class WhereWordsEnd(Checks, unittest.TestCase):
    def test_right_before_each_end(self):
        self.says("k = 1#c", "1", "k")
        self.says("k = true#c\n", "true", "k")
        self.says("k = 1\t#c\r\n", "1", "k")
        self.says("k = [1,2]", "[1,2]", "k")
        self.says("k = [1#c\n,2#c\r\n]", "[1,2]", "k")
        self.says("k = {a=1,b=inf}", '{"a":1,"b":inf}', "k")
        self.says("k = 1\r\nm = 2\n", '{"k":1,"m":2}')

    def test_ends_that_do_not_belong_there(self):
        for text in ("k = 1,", "k = 1]", "k = 1}", "k = [1}", "k = {a=1]", "k = 1\r", "k = 1\rm = 2", "k = 1;", "k = 1 2",
                     "k = 1\x0b", "k = 1\x00"):
            self.is_wrong(text)

    def test_no_word_at_all(self):
        for text in ("k =", "k = ", "k = \n", "k = #c", "k = ,", "k = ]", "k = }", "k = \r\n1"):
            self.is_wrong(text)

    def test_words_by_the_thousand(self):
        self.assertEqual(kind_at("k = [" + "1," * 8000 + "]", "k"), [6, 8000])


if __name__ == "__main__":
    unittest.main()
