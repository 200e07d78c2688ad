"""Promise 2: days and hours."""

import unittest

from tests.helper import Checks


class Days(Checks, unittest.TestCase):
    def test_days_that_there_are(self):
        for value in ("1979-05-27", "0001-01-01", "9999-12-31", "2000-02-29", "2024-02-29", "1900-02-28", "2023-02-28",
                      "2400-02-29", "2021-04-30", "2021-12-31", "2024-01-31", "2024-04-30", "2024-12-31"):
            self.value_says(value, value)

    def test_the_last_of_each_month(self):
        for month, last in enumerate((31, 28, 31, 30, 31, 30, 31, 31, 30, 31, 30, 31), start=1):
            self.value_says(f"2021-{month:02d}-{last:02d}", f"2021-{month:02d}-{last:02d}")
            self.value_is_wrong(f"2021-{month:02d}-{last + 1:02d}")
            self.value_is_wrong(f"2021-{month:02d}-00")

    def test_the_year_nought(self):
        self.value_says("0000-01-01", "0000-01-01")
        self.value_says("0000-02-29", "0000-02-29")

    def test_days_that_there_are_not(self):
        for value in ("2021-00-10", "2021-13-01", "2021-01-32", "2021-02-29", "1900-02-29", "2100-02-29", "2023-02-29",
                      "2000-02-30", "2021-04-31", "2024-02-30", "2024-04-31", "2024-12-32", "0000-00-00", "2021-99-99"):
            self.value_is_wrong(value)

    def test_days_that_are_written_otherwise(self):
        for value in ("2021-1-01", "2021-01-1", "21-01-01", "02021-01-01", "2021-01-011", "2021/01/01", "20210101.",
                      "2021-01", "2021-01-", "2021-01-01-", "+2021-01-01", "-2021-01-01", "2021-0a-01", "2021_01_01x",
                      "2_21-01-01", "2021-01-01Z", "2021-01-01z", "2021-01-01+00:00", "2021--1-01"):
            self.value_is_wrong(value)

    def test_blanks_and_comments_behind_a_day(self):
        self.says("k = 1979-05-27 ", "1979-05-27", "k")
        self.says("k = 1979-05-27 # 07:32:00", "1979-05-27", "k")
        self.says("k = 1979-05-27 #07:32:00", "1979-05-27", "k")
        self.says("k = [1979-05-27 ,07:32:00]", "[1979-05-27,07:32:00]", "k")
        self.says("k = 1979-05-27 \n", "1979-05-27", "k")
        self.says("k = 1979-05-27 \r\nm = 1", "1979-05-27", "k")
        self.says("k = [1979-05-27 ]", "[1979-05-27]", "k")
        self.says("k = [1979-05-27 , 07:32:00]", "[1979-05-27,07:32:00]", "k")
        self.says("k = {a=1979-05-27 }", '{"a":1979-05-27}', "k")


class Hours(Checks, unittest.TestCase):
    def test_hours(self):
        for value in ("00:00:00", "07:32:00", "23:59:59", "07:32:00.5", "07:32:00.000", "23:59:59.999999999999"):
            self.value_says(value, value)

    def test_digits_by_the_thousand(self):
        value = "07:32:00." + "10" * 8000
        self.says("k = " + value, value, "k")

    def test_outside(self):
        for value in ("24:00:00", "23:60:00", "23:59:60", "99:00:00", "00:99:00", "00:00:99", "24:00:00.0"):
            self.value_is_wrong(value)

    def test_written_otherwise(self):
        for value in ("7:32:00", "07:32", "07:32:0", "07:32:000", "07:32:00.", "07:32:00,5.", "07:32:00.5.5", "073200.",
                      "07:32:00Z", "07:32:00z", "07:32:00+01:00", "07:32:00.5Z", "+07:32:00", "07:3a:00", "07:32:00.5a",
                      "07:32:00.1_0", "07:32:00.-1", "T07:32:00", "07.32.00", "07:32:00 1", ":32:00"):
            self.value_is_wrong(value)


class DaysWithHours(Checks, unittest.TestCase):
    def test_with_each_sign_between(self):
        for sign in "Tt ":
            self.value_says(f"1979-05-27{sign}07:32:00", "1979-05-27T07:32:00")
            self.value_says(f"1979-05-27{sign}07:32:00.250", "1979-05-27T07:32:00.250")
            self.value_says(f"1979-05-27{sign}07:32:00Z", "1979-05-27T07:32:00Z")
            self.value_says(f"1979-05-27{sign}07:32:00z", "1979-05-27T07:32:00Z")
            self.value_says(f"1979-05-27{sign}07:32:00.5z", "1979-05-27T07:32:00.5Z")
            self.value_says(f"1979-05-27{sign}00:32:00-07:00", "1979-05-27T00:32:00-07:00")
            self.value_says(f"1979-05-27{sign}00:32:00.999999+07:30", "1979-05-27T00:32:00.999999+07:30")

    def test_zones(self):
        for zone in ("Z", "+00:00", "-00:00", "+23:59", "-23:59", "+12:00"):
            self.value_says("1979-05-27T07:32:00" + zone, "1979-05-27T07:32:00" + zone)
        for zone in ("+24:00", "-24:00", "+00:60", "-23:60", "+1:00", "+01:0", "+0100", "+01", "+01:00:00", "ZZ", "Z+01:00",
                     "+", "-", "01:00", "+01:00Z", " Z", " +01:00", "+0a:00", "zz", "U", "x01:00",
                     "_01:00", ":01:00", "001:00", " 01:00"):
            self.value_is_wrong("1979-05-27T07:32:00" + zone)

    def test_either_is_wrong(self):
        for value in ("2021-02-29T07:32:00", "2021-02-29 07:32:00", "2021-13-01 07:32:00", "1979-05-27T24:00:00",
                      "1979-05-27 24:00:00", "1979-05-27T23:60:00", "1979-05-27T23:59:60", "1979-05-27T23:59:60Z",
                      "1979-05-27T", "1979-05-27t", "1979-05-27T07:32", "1979-05-27 07:32", "1979-05-27T07:32:00.",
                      "1979-05-27T07:32:00.Z", "1979-05-27T7:32:00", "1979-05-27TZ", "1979-05-27T+01:00"):
            self.value_is_wrong(value)

    def test_other_signs_between(self):
        for between in ("  ", "\t", " \t", "T ", " T", "TT", "_", "", "-", "\n", "\r\n", " \n"):
            self.is_wrong(f"k = 1979-05-27{between}07:32:00")

    def test_something_behind_a_days_space(self):
        for value in ("1979-05-27 1", "1979-05-27 x", "1979-05-27 07", "1979-05-27 1979-05-27", "1979-05-27 07:32:00 Z",
                      "1979-05-27 07:32:00 07:32:00", "1979-05-27T07:32:00 07:32:00", "07:32:00 1979-05-27"):
            self.value_is_wrong(value)

    def test_a_comment_right_behind(self):
        self.says("k = 1979-05-27 07:32:00#c", "1979-05-27T07:32:00", "k")
        self.says("k = 1979-05-27#c", "1979-05-27", "k")


if __name__ == "__main__":
    unittest.main()
