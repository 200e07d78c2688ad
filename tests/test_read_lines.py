"""Promise 2: characters, lines, comments and keys."""

import unittest

from tests.helper import Checks, ask, begin, is_right, kind_at, read, show


class Lines(Checks, unittest.TestCase):
    def test_lines_that_say_nothing(self):
        for text in ("", "\n", "\r\n", "\n\n\r\n", " ", "\t", " \t \n\t ", "#", "# c", " # c", "#\n", "# c\r\n# d", "\n# c\n\n"):
            self.says(text, "{}")

    def test_the_last_line_with_an_end_or_without(self):
        for end in ("", "\n", "\r\n", " ", "\t\n", " # c", "#c\r\n", "\n\n"):
            self.says("a = 1" + end, '{"a":1}')
            self.says("[a]" + end, '{"a":{}}')
            self.says("[[a]]" + end, '{"a":[{}]}')

    def test_blanks_before(self):
        self.says(" \ta = 1\n\t [b]\n  c = 2\n\t[[d]]", '{"a":1,"b":{"c":2},"d":[{}]}')

    def test_blanks_before_and_behind_the_equals_sign(self):
        for text in ("a=1", "a =1", "a= 1", "a\t \t=\t \t1", "a = 1"):
            self.says(text, '{"a":1}')

    def test_both_line_ends(self):
        self.says("a = 1\nb = 2\r\nc = 3\n\r\n[d]\r\n", '{"a":1,"b":2,"c":3,"d":{}}')

    def test_a_carriage_return_alone(self):
        for text in ("\r", "a = 1\r", "a = 1\rb = 2", "\ra = 1", "a = 1\n\rb = 2", "# c\r", "# c\rd\n", "a = 1\r\r\n", "[a]\r",
                     "a\r= 1", "a =\r1", "[a\r]", "\r\r\n", " \r", "a = \"\"\r", "a = []\r", "[\ra]"):
            self.is_wrong(text)

    def test_two_on_a_line(self):
        for text in ("a = 1 b = 2", "a = 1, b = 2", "[a] b = 1", "[a][b]", "[a] [b]", "a = [] [b]", "[[a]] b = 1", "a = 1; b = 2",
                     "a = 'x' b = 'y'", "[[a]][[b]]", "[a]]", "[[a]]]"):
            self.is_wrong(text)

    def test_something_is_missing(self):
        for text in ("a", "a =", "= 1", "a 1", "a == 1", "a : 1", "1", "\"a\"", "a = b", "=", "a\n= 1", "a =\n1", ".", "a.", "a.b",
                     "]", "}", "{}", "{a = 1}", "a = = 1", "a b = 1", ", a = 1"):
            self.is_wrong(text)


class Comments(Checks, unittest.TestCase):
    def test_behind_each_line(self):
        self.says("# c\na = 1 # c\nb = 2# c\n[d] # c\n[e]# c\n[[f]] # c\n# c", '{"a":1,"b":2,"d":{},"e":{},"f":[{}]}')

    def test_bytes_that_are_seen(self):
        seen = bytes(list(range(32, 127)) + [9]) + "\u00e9\u20ac\U0001f600".encode()
        self.says(b"a = 1 #" + seen + b"\n#" + seen, '{"a":1}')

    def test_bytes_that_are_not(self):
        for octet in list(range(0, 9)) + [11, 12, 13] + list(range(14, 32)) + [127]:
            self.is_wrong(b"# c" + bytes([octet]))
            self.is_wrong(b"#" + bytes([octet]) + b"c\n")
            self.is_wrong(b"a = 1 # c" + bytes([octet]) + b" d\nb = 2")

    def test_do_not_stand_before(self):
        self.says("# a = 1", "{}")
        self.is_wrong("a # c = 1")
        self.is_wrong("a = # c\n1")
        self.is_wrong("[a # c\n]")


class BytesOutsideTexts(Checks, unittest.TestCase):
    def test_are_wrong(self):
        for octet in list(range(0, 9)) + [11, 12, 13] + list(range(14, 32)) + [127]:
            one = bytes([octet])
            for text in (one, one + b"a = 1", b"a" + one + b" = 1", b"a = " + one, b"a = 1" + one, b"a = 1\n" + one, b"[" + one + b"a]",
                         b"[a]" + one, b"a =" + one + b"1"):
                self.is_wrong(text)

    def test_characters_beyond_ascii(self):
        for text in ("\u00e9 = 1", "\ufeffa = 1", "a = \u00e9", "a\u00a0= 1", "a = 1\u00a0", "\u2028", "[\u00e9]"):
            self.is_wrong(text)


class Characters(Checks, unittest.TestCase):
    RIGHT = (b"\x7e", b"\xc2\x80", b"\xdf\xbf", b"\xe0\xa0\x80", b"\xed\x9f\xbf", b"\xee\x80\x80", b"\xef\xbf\xbf",
             b"\xf0\x90\x80\x80", b"\xf4\x8f\xbf\xbf", b"\xef\xbb\xbf", b"\xe1\x80\x80", b"\xf1\x80\x80\x80", b"\xf3\xbf\xbf\xbf")
    TOO_LONG = (b"\xc0\x80", b"\xc1\xbf", b"\xc0\xaf", b"\xe0\x80\x80", b"\xe0\x9f\xbf", b"\xf0\x80\x80\x80", b"\xf0\x8f\xbf\xbf",
                b"\xc1\x81", b"\xe0\x81\x81", b"\xf8\x88\x80\x80\x80", b"\xfc\x84\x80\x80\x80\x80")
    CUT_OFF = (b"\xc2", b"\xe2\x82", b"\xe2", b"\xf0\x9f\x98", b"\xf0\x9f", b"\xf0", b"\xdf", b"\xf4\x8f\xbf")
    SURROGATES = (b"\xed\xa0\x80", b"\xed\xad\xbf", b"\xed\xb0\x80", b"\xed\xbf\xbf", b"\xed\xa0\xbd\xed\xb8\x80")
    TOO_GREAT = (b"\xf4\x90\x80\x80", b"\xf5\x80\x80\x80", b"\xf7\xbf\xbf\xbf", b"\xf8\x80\x80\x80", b"\xff", b"\xfe", b"\xfb")
    ALONE = (b"\x80", b"\xbf", b"\xa9", b"\xc3\xa9\xa9", b"\xc3\x29", b"\xe2\x28\xa1", b"\xe2\x82\x28", b"\xf0\x28\x8c\xbc",
             b"\xf0\x90\x28\xbc", b"\xf0\x28\x8c\x28", b"\xc3\xc3\xa9", b"\xe2\x82\xc3\xa9")

    def everywhere(self, one):
        return (b'k = "' + one + b'"', b"k = '" + one + b"'", b'k = """' + one + b'"""', b"k = '''" + one + b"'''",
                b"# " + one, b"# " + one + b"\n", b'"' + one + b'" = 1', b"k = [ # " + one + b"\n]", b"['" + one + b"']")

    def test_right_ones(self):
        for one in self.RIGHT:
            for text in self.everywhere(one):
                self.assertTrue(is_right(text), text)
            self.assertEqual(kind_at(b'k = "' + one + b'"', "k"), [1, len(one)])
            self.says(b'k = "' + one + b'"', b'"' + one + b'"', "k")

    def test_wrong_ones(self):
        for one in self.TOO_LONG + self.CUT_OFF + self.SURROGATES + self.TOO_GREAT + self.ALONE:
            for text in self.everywhere(one):
                self.is_wrong(text)
            self.is_wrong(one)

    def test_cut_off_by_the_texts_end(self):
        for one in self.CUT_OFF:
            self.is_wrong(b"#" + one)
            self.is_wrong(b"a = 1\n#" + one)

    def test_the_last_byte_may_not_be_a_quote(self):
        self.is_wrong(b'k = "\xc3"\xa9')
        self.is_wrong(b'k = "\xe2\x82"')


class Keys(Checks, unittest.TestCase):
    def test_bare_parts(self):
        self.says("azAZ09-_ = 1", '{"azAZ09-_":1}')
        self.says("- = 1\n_ = 2\n1 = 3\n-1 = 4\n01 = 5\n1e5 = 6\ntrue = 7\ninf = 8", '{"-":1,"_":2,"1":3,"-1":4,"01":5,"1e5":6,"true":7,"inf":8}')
        self.says("1979-05-27 = 1", '{"1979-05-27":1}')

    def test_other_signs_in_bare_parts(self):
        for sign in "!$%&()*+,/:;<>?@^`|~{}[]\\":
            self.is_wrong(f"a{sign}b = 1")
            self.is_wrong(f"{sign} = 1")
        self.is_wrong("a#b = 1")

    def test_parts_in_quotes(self):
        self.says('"a b" = 1\n\'c "d"\' = 2\n"e\\n\\u00e9" = 3', '{"a b":1,"c \\"d\\"":2,"e\\u000a\u00e9":3}')
        self.says("'a\\n' = 1", '{"a\\\\n":1}')
        self.says('"" = 1', '{"":1}')
        self.says("'' = 1", '{"":1}')
        self.says('"a.b" = 1', '{"a.b":1}')
        self.says('"=" = 1\n"#" = 2\n"]" = 3', '{"=":1,"#":2,"]":3}')
        self.says('["]"]\n"a\tb" = 1', '{"]":{"a\\u0009b":1}}')

    def test_a_part_says_the_same_in_quotes_or_not(self):
        for second in ("a", '"a"', "'a'", r'"\u0061"', r'"\U00000061"'):
            self.is_wrong("a = 1\n" + second + " = 2")

    def test_small_and_great_letters_differ(self):
        self.says("a = 1\nA = 2", '{"a":1,"A":2}')

    def test_one_character_written_in_two_ways_differs(self):
        self.says('"\\u00e9" = 1\n"e\\u0301" = 2', '{"\u00e9":1,"e\u0301":2}')

    def test_parts_in_quotes_that_are_wrong(self):
        for text in ('"a = 1', "'a = 1", '"a\nb" = 1', "'a\nb' = 1", '"""a""" = 1', "'''a''' = 1", '"""""" = 1', "'''''' = 1",
                     '"a"b = 1', 'a"b" = 1', '"a" "b" = 1', '"\\q" = 1', '"\\uD800" = 1', '"""\na""" = 1', '"a\\\n" = 1', '"a\x00" = 1',
                     "['''a''']", '["""a"""]', "a.'''b''' = 1", "'a''b' = 1"):
            self.is_wrong(text)

    def test_points(self):
        self.says("a.b = 1", '{"a":{"b":1}}')
        self.says("a.b.c.d = 1", '{"a":{"b":{"c":{"d":1}}}}')
        self.says('a."b.c".\'d\' = 1', '{"a":{"b.c":{"d":1}}}')
        self.says("3.14159 = 1", '{"3":{"14159":1}}')
        self.says('"".""."" = 1', '{"":{"":{"":1}}}')

    def test_blanks_around_points(self):
        self.says("a . b = 1", '{"a":{"b":1}}')
        self.says("a\t.\tb \t.\t c=1", '{"a":{"b":{"c":1}}}')
        self.says('"a" . \'b\' = 1', '{"a":{"b":1}}')
        self.says("[ a . b ]", '{"a":{"b":{}}}')
        self.says("[[\ta .b\t]]", '{"a":{"b":[{}]}}')

    def test_points_that_are_wrong(self):
        for key in (".a", "a.", "a..b", ".", "..", "a. .b", ". a", "a .", "a.b.", "a.#", "a.\nb", "a\n.b", "a.\"", "a.=", "a b.c"):
            self.is_wrong(key + " = 1")
            self.is_wrong("[" + key + "]")
            self.is_wrong("[[" + key + "]]")


class Headers(Checks, unittest.TestCase):
    def test_blanks_around_the_key(self):
        for text in ("[a]", "[ a ]", "[\ta\t]", "[  a]", "[a  ]", "  [a]  "):
            self.says(text, '{"a":{}}')
        for text in ("[[a]]", "[[ a ]]", "[[\ta\t]]", "  [[a]]  "):
            self.says(text, '{"a":[{}]}')

    def test_brackets_that_are_wrong(self):
        for text in ("[", "[]", "[ ]", "[a", "[a\n]", "[\na]", "[[", "[[]]", "[[ ]]", "[[a", "[[a]", "[ [a] ]", "[[a] ]", "[ [a]]",
                     "[[a]\n]", "[[[a]]]", "[a]]", "[[a]]]", "[a] ]", "[a}", "{a}", "[a b]", "[a,b]", "[a=1]", "[a # c", "[[a\n]]", "]a[",
                     "[a] = 1", "[=]", "[#a]"):
            self.is_wrong(text)


class AtLarge(Checks, unittest.TestCase):
    def test_as_many_bytes_as_a_text_may_have(self):
        self.says("a = '" + "x" * (16384 - 6) + "'", '"' + "x" * (16384 - 6) + '"', "a")
        self.says("#" * 16384, "{}")
        self.says("\n" * 16384, "{}")
        self.says(" " * 16384, "{}")
        self.is_wrong("#" * 16383 + "\x00")
        self.is_wrong("a = '" + "x" * (16384 - 5))

    def test_one_more(self):
        self.is_wrong("#" * 16385)

    def test_a_key_of_as_many_bytes(self):
        self.assertEqual(kind_at("k" * 16380 + " = 1"), [7, 1])

    def test_a_read_that_is_refused_changes_nothing(self):
        given = ask(begin(), read("a = 1\n[b]\nc = 2"), read("a = 2\n[b]\nc = 3\n[b]"), show(), read("x = 1\ny"), show("b.c"), show("x"))
        form = list(b'{"a":1,"b":{"c":2}}')
        self.assertEqual(given, [[0], [0], [-1], [len(form)] + form, [-1], [1, 50], [-1]])

    def test_what_is_read_later_takes_the_place_of_what_was_read_before(self):
        given = ask(begin(), read("a = 1"), read("b = 2"), show(), read(""), show())
        form = list(b'{"b":2}')
        self.assertEqual(given, [[0], [0], [0], [len(form)] + form, [0], [2, 123, 125]])


if __name__ == "__main__":
    unittest.main()
