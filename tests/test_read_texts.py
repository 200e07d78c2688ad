"""Promise 2: values that are texts."""

import unittest

from tests.helper import Checks, kind_at


class OnOneLine(Checks, unittest.TestCase):
    def test_between_double_quotes(self):
        self.value_says('""', '""')
        self.value_says('"abc"', '"abc"')
        self.value_says('"a\tb"', '"a\\u0009b"')
        self.value_says("\"it's\"", "\"it's\"")
        self.value_says('"# , ] } ="', '"# , ] } ="')
        self.value_says('"\u00e9 \u20ac \U0001f600"', '"\u00e9 \u20ac \U0001f600"')

    def test_each_backslash_that_is_allowed(self):
        self.value_says(r'"\b\t\n\f\r\"\\"', r'"\u0008\u0009\u000a\u000c\u000d\"\\"')
        self.value_says(r'"\u0041\u00e9\u20AC\uFFFF"', '"A\u00e9\u20ac\uffff"')
        self.value_says(r'"\U00000041\U0001F600\U0010ffff"', '"A\U0001f600\U0010ffff"')
        self.value_says(r'"\u0000\u001F\u0020\u007f"', '"\\u0000\\u001f \x7f"')
        self.value_says(r'"\uD7FF\uE000"', '"\ud7ff\ue000"')
        self.value_says(r'"\u00410"', '"A0"')
        self.value_says(r'"\u007f\u0080\u07ff\u0800\uffff\U00010000"', '"\x7f\x80\u07ff\u0800\uffff\U00010000"')

    def test_backslashes_that_are_not(self):
        for sign in "aBcdeghijklmopqsvwxyzTNFR0123456789'/ \t?[{.\u00e9":
            self.value_is_wrong('"\\' + sign + '"')
        for escape in (r"\u", r"\u004", r"\u004g", r"\u00 4", r"\U0000004", r"\U0000004g", r"\u+041", r"\u_041", r"\u00@1",
                       r"\u00`1", r"\u00G1", r"\u00/1", r"\u00:1",
                       r"\U00110000", r"\UFFFFFFFF", r"\uD800", r"\uDFFF", r"\U0000D800", r"\U0000DFFF", "\\\n",
                       "\\ \n", "\\\r\n"):
            self.value_is_wrong('"' + escape + '"')
        self.value_is_wrong('"\\"')
        self.value_is_wrong('"\\')

    def test_surrogates_do_not_make_one_character(self):
        self.value_is_wrong(r'"\uD83D\uDE00"')

    def test_between_single_quotes_as_it_stands(self):
        self.value_says("''", '""')
        self.value_says("'abc'", '"abc"')
        self.value_says(r"'C:\new\u0041\'", r'"C:\\new\\u0041\\"')
        self.value_says("'say \"x\"'", r'"say \"x\""')
        self.value_says("'a\tb'", '"a\\u0009b"')
        self.value_says("'\u00e9'", '"\u00e9"')

    def test_bytes_that_are_not_seen(self):
        for octet in list(range(0, 9)) + list(range(10, 32)) + [127]:
            self.value_is_wrong(b'"a' + bytes([octet]) + b'b"')
            self.value_is_wrong(b"'a" + bytes([octet]) + b"b'")
        self.value_is_wrong(b'"a\r\nb"')
        self.value_is_wrong(b"'a\r\nb'")

    def test_bytes_that_are(self):
        for octet in list(range(32, 127)) + [9]:
            if octet not in (34, 92):
                self.assertEqual(kind_at(b'k = "' + bytes([octet]) + b'"', "k"), [1, 1], octet)
            if octet != 39:
                self.assertEqual(kind_at(b"k = '" + bytes([octet]) + b"'", "k"), [1, 1], octet)

    def test_quotes_that_do_not_end(self):
        for value in ('"', "'", '"a', "'a", '"a\'', "'a\"", '"a\\"', 'a"', "a'"):
            self.value_is_wrong(value)

    def test_something_behind_the_last_quote(self):
        for value in ('"a"b', "'a'b", '"a""b"', "'a''b'", '"a" "b"', "'a' 'b'", '"a"1'):
            self.value_is_wrong(value)

    def test_a_comment_right_behind(self):
        self.says('k = "a"#c', '"a"', "k")
        self.says("k = 'a'#c", '"a"', "k")


class OnManyLines(Checks, unittest.TestCase):
    def test_between_three_quotes(self):
        for three in ('"""', "'''"):
            self.value_says(three + three, '""')
            self.value_says(three + "abc" + three, '"abc"')
            self.value_says(three + "a\nb\n" + three, '"a\\u000ab\\u000a"')
            self.value_says(three + "a\tb" + three, '"a\\u0009b"')
            self.value_says(three + "\u00e9\n\U0001f600" + three, '"\u00e9\\u000a\U0001f600"')
            self.value_says(three + "# [ ] = \n x = 1 # c" + three, '"# [ ] = \\u000a x = 1 # c"')

    def test_a_line_end_right_behind_the_first_three_is_left_out(self):
        for three in ('"""', "'''"):
            self.value_says(three + "\n" + three, '""')
            self.value_says(three + "\r\n" + three, '""')
            self.value_says(three + "\n\na" + three, '"\\u000aa"')
            self.value_says(three + "\r\n\r\na" + three, '"\\u000aa"')
            self.value_says(three + " \na" + three, '" \\u000aa"')

    def test_each_line_end_is_a_line_feed(self):
        for three in ('"""', "'''"):
            self.value_says(three + "a\r\nb\nc\r\n" + three, '"a\\u000ab\\u000ac\\u000a"')

    def test_a_carriage_return_alone_is_wrong(self):
        for three in ('"""', "'''"):
            self.value_is_wrong(three + "\ra" + three)
            self.value_is_wrong(three + "a\rb" + three)
            self.value_is_wrong(three + "a\r" + three)
            self.value_is_wrong(three + "a\r\r\nb" + three)

    def test_quotes_within(self):
        for one in ('"', "'"):
            shown = '\\"' if one == '"' else "'"
            self.value_says(one * 3 + "a" + one + "b" + one * 3, f'"a{shown}b"')
            self.value_says(one * 3 + "a" + one * 2 + "b" + one * 3, f'"a{shown}{shown}b"')
            self.value_says(one * 3 + "a\n" + one * 2 + "\n" + one * 5,
                            f'"a\\u000a{shown}{shown}\\u000a{shown}{shown}"')
            self.value_is_wrong(one * 3 + "a" + one * 3 + "b" + one * 3)

    def test_quotes_at_the_beginning(self):
        for one in ('"', "'"):
            shown = '\\"' if one == '"' else "'"
            self.value_says(one * 3 + "\n" + one + "a" + one * 3, f'"{shown}a"')
            self.value_says(one * 3 + one + "a" + one * 3, f'"{shown}a"')
            self.value_says(one * 3 + one * 2 + "a" + one * 3, f'"{shown}{shown}a"')

    def test_quotes_right_before_the_last_three(self):
        for one in ('"', "'"):
            shown = '\\"' if one == '"' else "'"
            self.value_says(one * 3 + "a" + one * 4, f'"a{shown}"')
            self.value_says(one * 3 + "a" + one * 5, f'"a{shown}{shown}"')
            self.value_is_wrong(one * 3 + "a" + one * 6)
            self.value_is_wrong(one * 3 + "a" + one * 7)
            self.value_is_wrong(one * 3 + "a" + one * 8)

    def test_nothing_but_quotes(self):
        for one in ('"', "'"):
            shown = '\\"' if one == '"' else "'"
            self.value_says(one * 6, '""')
            self.value_says(one * 7, f'"{shown}"')
            self.value_says(one * 8, f'"{shown}{shown}"')
            for count in (1, 3, 4, 5, 9, 10, 11, 12):
                self.value_is_wrong(one * count)

    def test_the_other_quotes_are_free(self):
        self.value_says("\"\"\"a'''b''''\"\"\"", "\"a'''b''''\"")
        self.value_says("'''a\"\"\"b\"'''", '"a\\"\\"\\"b\\""')

    def test_quotes_behind_a_backslash_do_not_count(self):
        self.value_says('"""a\\""""', '"a\\""')
        self.value_says('"""a""\\""""', '"a\\"\\"\\""')
        self.value_says('"""a""\\"""""', '"a\\"\\"\\"\\""')
        self.value_says('"""\\"\\"\\""""', '"\\"\\"\\""')

    def test_each_backslash_that_is_allowed(self):
        self.value_says(r'"""\b\t\n\f\r\"\\\u0041\U0001F600"""',
                        '"\\u0008\\u0009\\u000a\\u000c\\u000d\\"\\\\A\U0001f600"')

    def test_backslashes_that_are_not(self):
        for escape in (r"\a", r"\'", r"\u12", r"\uD800", r"\U00110000", r"\x41", "\\ a", "\\\ta", "\\ ", "\\"):
            self.value_is_wrong('"""' + escape + '"""')

    def test_a_backslash_at_a_lines_end(self):
        self.value_says('"""a\\\nb"""', '"ab"')
        self.value_says('"""a\\\r\nb"""', '"ab"')
        self.value_says('"""a \\ \t \n \t b"""', '"a b"')
        self.value_says('"""a\\\n\n \r\n\t\n  b"""', '"ab"')
        self.value_says('"""\\\n   """', '""')
        self.value_says('"""\n\\\n   a"""', '"a"')
        self.value_says('"""a\\\n  \\\n  b"""', '"ab"')
        self.value_says('"""a\\\\\nb"""', '"a\\\\\\u000ab"')
        self.value_says('"""a\\\n"b"""', '"a\\"b"')

    def test_a_backslash_and_a_carriage_return_alone(self):
        self.value_is_wrong('"""a\\\rb"""')
        self.value_is_wrong('"""a\\ \r b"""')
        self.value_is_wrong('"""a\\\n \r b"""')

    def test_a_backslash_between_single_quotes_stands_for_itself(self):
        self.value_says("'''a\\\n  b\\n'''", '"a\\\\\\u000a  b\\\\n"')
        self.value_says("'''\\'''", '"\\\\"')

    def test_bytes_that_are_not_seen(self):
        for octet in list(range(0, 9)) + [11, 12] + list(range(14, 32)) + [127]:
            self.value_is_wrong(b'"""a' + bytes([octet]) + b'"""')
            self.value_is_wrong(b"'''a" + bytes([octet]) + b"'''")

    def test_quotes_that_do_not_end(self):
        for value in ('"""', '"""a', '"""a"', '"""a""', "'''a''", '"""a\'\'\'', "'''a\"\"\"", '"""a\\"""', '"""\n'):
            self.value_is_wrong(value)

    def test_a_comment_right_behind(self):
        self.says('k = """a"""#c', '"a"', "k")

    def test_something_behind_the_last_quotes(self):
        self.value_is_wrong('"""a""" b')
        self.value_is_wrong("'''a'''b")

    def test_the_line_goes_on_behind_it(self):
        self.says('k = """a\nb""" # c\nm = 1', '{"k":"a\\u000ab","m":1}')
        self.is_wrong('k = """a\nb""" m = 1')


if __name__ == "__main__":
    unittest.main()
