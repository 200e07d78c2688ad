"""Promise 3: show, its form, ways, and refusals."""

import unittest

from tests.helper import MOST, Checks, ask, begin, octets, read, show, shown

TEXT = """
x = 1
"" = 2
"a.b" = 3
"q\\"r" = 4
"\u00e9" = 5
0 = 6
[t]
u.v = "deep"
"w w" = true
[r]
list = [10, [20, 21], {k = 22}, "s"]
[[many]]
n = 1
[[many]]
n = 2
[[many.sub]]
z = 'last'
"""


def shown_at(way, most=MOST):
    """The form at a way of TEXT, or the refusal's number."""
    answer = ask(begin(), read(TEXT), show(way, most))[2]
    return answer[0] if answer[0] < 0 else bytes(answer[1:]).decode("utf-8")


class TheForm(Checks, unittest.TestCase):
    def test_texts(self):
        self.says('k = ""', '""', "k")
        self.says("k = 'a\"b\\c/d'", '"a\\"b\\\\c/d"', "k")
        for number in range(32):
            self.says(f'k = "\\u{number:04X}"', f'"\\u{number:04x}"', "k")
        for number in (32, 33, 126, 127, 128, 255, 0x7FF, 0x800, 0xFFFF):
            if number not in (34, 92):
                self.says(f'k = "\\u{number:04x}"', '"' + chr(number) + '"', "k")

    def test_the_root(self):
        self.says("", "{}")
        self.says("a = 1\nb = 'x'\n[c]\n[[d]]", '{"a":1,"b":"x","c":{},"d":[{}]}')

    def test_a_keys_part_is_a_text(self):
        self.says("'a\"b' = 1\n\"\\u0001\\\\\" = 2\n3.\u0034 = 3", '{"a\\"b":1,"\\u0001\\\\":2,"3":{"4":3}}')

    def test_no_blanks(self):
        self.says("a = [ 1 , 2 ]\nb = { c = 1 , d = [ ] }\n[ e ]\nf = ' g '", '{"a":[1,2],"b":{"c":1,"d":[]},"e":{"f":" g "}}')

    def test_each_sort_of_value(self):
        self.says("k = ['a', -1, 0x10, 1.50, -0.0, +inf, -inf, -nan, true, false, 1979-05-27, 07:32:00, 1979-05-27t07:32:00z, [], {}]",
                  '["a",-1,16,15e-1,-0e0,inf,-inf,nan,true,false,1979-05-27,07:32:00,1979-05-27T07:32:00Z,[],{}]', "k")

    def test_tables_thousands_deep(self):
        self.says("[" + "a." * 8000 + "a]", '{"a":' * 8001 + "{}" + "}" * 8001)
        self.says("[[" + "a." * 8000 + "a]]", '{"a":' * 8001 + "[{}]" + "}" * 8001)
        self.says("a" + ".a" * 8000 + " = 1", '{"a":' * 8001 + "1" + "}" * 8001)
        self.says("k = {a" + ".a" * 8000 + " = 1}", '{"a":' * 8001 + "1" + "}" * 8001, "k")


class Ways(unittest.TestCase):
    def test_no_way_is_the_root(self):
        form = shown_at("")
        self.assertTrue(form.startswith('{"x":1,"":2,"a.b":3,"q\\"r":4,"\u00e9":5,"0":6,"t":{'), form)

    def test_into_tables(self):
        for way, form in (("x", "1"), ("t", '{"u":{"v":"deep"},"w w":true}'), ("t.u", '{"v":"deep"}'), ("t.u.v", '"deep"'), ("0", "6")):
            self.assertEqual(shown_at(way), form)

    def test_parts_in_quotes(self):
        for way, form in (('""', "2"), ("''", "2"), ('"a.b"', "3"), ("'q\"r'", "4"), ('"q\\"r"', "4"), ('"\u00e9"', "5"), ("'\u00e9'", "5"),
                          ('"\\u00e9"', "5"), ('t."w w"', "true"), ("'t'.\"u\".v", '"deep"'), ('"\\u0074".u.v', '"deep"')):
            self.assertEqual(shown_at(way), form, way)

    def test_into_arrays(self):
        for way, form in (("r.list.0", "10"), ("r.list.1", "[20,21]"), ("r.list.1.1", "21"), ("r.list.2.k", "22"), ("r.list.3", '"s"'),
                          ("many", '[{"n":1},{"n":2,"sub":[{"z":"last"}]}]'), ("many.0", '{"n":1}'), ("many.1.n", "2"),
                          ("many.1.sub.0.z", '"last"')):
            self.assertEqual(shown_at(way), form, way)

    def test_up_to_five_digits(self):
        for way in ("r.list.03", "r.list.003", "r.list.0003", "r.list.00003", 'r.list."3"', "r.list.'00003'"):
            self.assertEqual(shown_at(way), '"s"', way)
        for way in ("r.list.000003", "r.list.000000", "r.list.00000003", 'r.list."000003"', "r.list.4", "r.list.99999", "r.list.100000",
                    "r.list.-1", "r.list.-0", "r.list.1_0", "r.list.a", "r.list.0x0", "r.list.''", 'r.list." 0"', 'r.list."+0"', "r.list.0a",
                    'r.list."\u0660"', "many.2", "many.n", "r.list.1.2", "r.list.18446744073709551616"):
            self.assertEqual(shown_at(way), -1, way)

    def test_far_into_a_long_array(self):
        text = "k = [" + "1," * 8000 + "'end']"
        self.assertEqual(shown(text, "k.8000"), b'"end"')
        self.assertEqual(shown(text, "k.08000"), b'"end"')
        self.assertEqual(shown(text, "k.8001"), ("not shown", [-1]))

    def test_digits_into_tables_are_keys(self):
        self.assertEqual(shown("[a]\n0 = 'x'\n000001 = 'y'\n-1 = 'z'", "a.0"), b'"x"')
        self.assertEqual(shown("[a]\n0 = 'x'\n000001 = 'y'\n-1 = 'z'", "a.000001"), b'"y"')
        self.assertEqual(shown("[a]\n0 = 'x'\n000001 = 'y'\n-1 = 'z'", "a.-1"), b'"z"')
        self.assertEqual(shown("[a]\n0 = 'x'", "a.00"), ("not shown", [-1]))

    def test_blanks(self):
        for way in ("t . u . v", "t\t.\tu .v", "t.u.v ", "t.u.v \t ", "t . u.v\t", "t.'u' . v "):
            self.assertEqual(shown_at(way), '"deep"', way)
        self.assertEqual(shown_at("r . list . 1 . 0 "), "20")
        self.assertEqual(shown_at('"" '), "2")

    def test_no_key(self):
        for way in (" ", "\t", " x", "\tx", " t.u", ".", ".x", "x.", "x..y", "t.", "t.u.", "t u", "x y", "x =", "x#", "x # c", "x\n", "x\r\n", "\n",
                    "[x]", '"x', "'x", '"x"y', '"""x"""', "'''x'''", '"\\q"', '"\\ud800"', "\u00e9", "x,", "t/u", "\x00", "x\x00", '"x\n"', "x\x7f",
                    '"\x7f"', "t . ", "t. u .", "r.list[0]", "*", "#"):
            self.assertEqual(shown_at(way), -1, way)

    def test_bytes_that_are_no_characters(self):
        for way in (b'"\xff"', b'"\xc3"', b"'\xc0\xa9'", b"\xff", b'"\xed\xa0\x80"', b"t.'\x80'"):
            self.assertEqual(shown_at(way), -1, way)

    def test_to_nothing(self):
        for way in ("y", "X", "t.x", "t.u.v.w", "x.y", "x.0", "t.u.v.0", "t.0", "u", "v", '"t.u"', '"x "', "a.b", "list", "many.0.sub", "r.list.k",
                    "r.list.0.0", "r.list.3.0", "e"):
            self.assertEqual(shown_at(way), -1, way)

    def test_as_long_as_a_way_may_be(self):
        part = "k" * 4096
        self.assertEqual(shown(part + " = 1", part), b"1")
        deep = "a" + ".a" * 2047
        self.assertEqual(shown(deep + " = 1", deep + " "), b"1")
        self.assertEqual(shown("a = 1", "a" + " " * 4095), b"1")
        self.assertEqual(shown("a = 1", "a" + " " * 4096), ("not shown", [-1]))
        self.assertEqual(shown(deep + ".a = 1", deep), b'{"a":1}')


class Most(unittest.TestCase):
    def test_what_it_just_needs(self):
        self.assertEqual(shown_at("t.u.v", 6), '"deep"')
        self.assertEqual(shown_at("t.u.v", 5), -2)
        self.assertEqual(shown_at("t.u.v", 7), '"deep"')

    def test_both_ends(self):
        self.assertEqual(shown_at("x", 1), "1")
        self.assertEqual(shown_at("t", 1), -2)
        self.assertEqual(shown_at("x", 1048576), "1")

    def test_outside(self):
        for most in (0, -1, -2147483648, 1048577, 2147483647):
            self.assertEqual(shown_at("x", most), -2, most)
            self.assertEqual(shown_at("", most), -2, most)

    def test_the_way_is_looked_at_first(self):
        for most in (0, 1, -5, 1048577):
            for way in ("y", ".", "t.u.v.w"):
                self.assertEqual(shown_at(way, most), -1, (way, most))

    def test_bytes_are_counted(self):
        text = "k = '\u00e9\t\"'"
        self.assertEqual(ask(begin(), read(text), show("k", 12))[2], [12] + octets('"\u00e9\\u0009\\""'))
        self.assertEqual(ask(begin(), read(text), show("k", 11))[2], [-2])

    def test_a_form_that_is_longer_than_its_text(self):
        text = "k='" + "\t" * 16380 + "'"
        self.assertEqual(len(shown(text, "k")), 16380 * 6 + 2)
        self.assertEqual(ask(begin(), read(text), show("k", 98281))[2], [-2])
        self.assertEqual(ask(begin(), read(text), show("k", 98282))[2][0], 98282)

    def test_a_refusal_changes_nothing(self):
        given = ask(begin(), read("a = 1"), show("b"), show("", 2), show("."), show("a"))
        self.assertEqual(given, [[0], [0], [-1], [-2], [-1], [1, 49]])


if __name__ == "__main__":
    unittest.main()
