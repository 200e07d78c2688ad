"""Promise 2: arrays and tables in place."""

import unittest

from tests.helper import Checks, is_right


class Arrays(Checks, unittest.TestCase):
    def test_with_values_of_each_sort(self):
        self.value_says("[]", "[]")
        self.value_says("[1]", "[1]")
        self.value_says('[1, 1.5, "a", true, 1979-05-27, [2], {b = 3}]', '[1,15e-1,"a",true,1979-05-27,[2],{"b":3}]')
        self.value_says("['''a\nb''', \"\"\"\nc\"\"\"]", '["a\\u000ab","c"]')

    def test_a_comma_behind_the_last(self):
        self.value_says("[1,]", "[1]")
        self.value_says("[1, 2 , ]", "[1,2]")
        self.value_says("[[],]", "[[]]")
        self.value_says("[{},\n]", "[{}]")

    def test_commas_that_are_wrong(self):
        for value in ("[,]", "[1,,]", "[,1]", "[1,,2]", "[1 2]", "[1;2]", "[ , ]", "[1,2,,]", "[[],,]", "[\n,\n]"):
            self.value_is_wrong(value)

    def test_blanks_line_ends_and_comments_around_each(self):
        self.value_says("[ ]", "[]")
        self.value_says("[\n]", "[]")
        self.value_says("[\r\n\t\n]", "[]")
        self.value_says("[ # c\n]", "[]")
        self.value_says("[#\n#\r\n]", "[]")
        self.value_says("[\n 1\n ,\n 2\n]", "[1,2]")
        self.value_says("[ # a\n 1 # b ]\r\n , # c, 5\n # d\n\n 2 # e\n , # f\n]", "[1,2]")
        self.value_says('["a" # b\n, "c"# d\n]', '["a","c"]')
        self.value_says("[[1\n]\n,[\n2]]", "[[1],[2]]")

    def test_bytes_that_are_wrong_around_each(self):
        for value in ("[\r]", "[1\r,2]", "[1,\r2]", "[1,2\r]", "[#\r]", "[#\x00\n]", "[#\x7f\n]", "[# a\rb\n1]", "[\x0b]", "[1\x0c]",
                      "[\x00]", "[\u00a0]"):
            self.value_is_wrong(value)

    def test_that_do_not_end(self):
        for value in ("[", "[1", "[1,", "[1, 2", "[[1]", "[1 # ]", "[1 # ]\n", "[1}", "[\n", "[#", "[[[]]"):
            self.is_wrong("k = " + value)
            self.is_wrong("k = " + value + "\n")

    def test_something_behind_the_end(self):
        for value in ("[]]", "[1]]", "[1] 2", "[1]2", "[1][2]", "[1] [2]", "[1]}", "[1],"):
            self.is_wrong("k = " + value)

    def test_a_comment_right_behind(self):
        self.says("k = [1]#c", "[1]", "k")

    def test_keys_and_headers_do_not_stand_within(self):
        for value in ("[a = 1]", "[a]", "[1\n[b]\n]", "[1,\nb = 2]"):
            self.value_is_wrong(value)


class TablesInPlace(Checks, unittest.TestCase):
    def test_with_values_of_each_sort(self):
        self.value_says("{}", "{}")
        self.value_says("{a=1}", '{"a":1}')
        self.value_says('{a = 1, b = "x", c = [1, 2], d = {e = inf}}', '{"a":1,"b":"x","c":[1,2],"d":{"e":inf}}')
        self.value_says("{b = 1, a = 2}", '{"b":1,"a":2}')

    def test_blanks_around_each(self):
        self.value_says("{ \t}", "{}")
        self.value_says("{ a\t=\t1 , b = 2\t}", '{"a":1,"b":2}')
        self.value_says("{a=1,b=2}", '{"a":1,"b":2}')
        self.value_says('{ "a b" = 1, \'c\' = 2, 3 = 4 }', '{"a b":1,"c":2,"3":4}')

    def test_commas_that_are_wrong(self):
        for value in ("{,}", "{a=1,}", "{a=1 , }", "{,a=1}", "{a=1,,b=2}", "{a=1 b=2}", "{a=1;b=2}", "{a=1,b=2,}", "{ , }"):
            self.value_is_wrong(value)

    def test_line_ends_and_comments_are_wrong(self):
        for value in ("{\n}", "{\r\n}", "{a=1\n}", "{\na=1}", "{a=1,\nb=2}", "{a=1\n,b=2}", "{a\n=1}", "{a=\n1}", "{a=1 # c\n}",
                      "{ # c\n}", "{#}", "{a=1, # c\n b=2}", "{a=[1]\n}", "{\r}", "{a=1\r}"):
            self.value_is_wrong(value)

    def test_line_ends_within_its_values(self):
        self.value_says("{a = [\n1, # c\n2\n], b = 3}", '{"a":[1,2],"b":3}')
        self.value_says('{a = """\nx\ny""", b = \'\'\'z\n\'\'\'}', '{"a":"x\\u000ay","b":"z\\u000a"}')

    def test_keys_with_points(self):
        self.value_says("{a.b = 1, a.c = 2}", '{"a":{"b":1,"c":2}}')
        self.value_says("{a.b.c = 1, a.b.d = 2, e = 3, a . f = 4}", '{"a":{"b":{"c":1,"d":2},"f":4},"e":3}')
        self.value_says("{ a.'b.c' = 1 }", '{"a":{"b.c":1}}')

    def test_keys_that_are_there_already(self):
        for value in ("{a=1, a=2}", "{a=1, 'a'=2}", "{a.b=1, a.b=2}", "{a.b=1, a=2}", "{a=1, a.b=2}", "{a={}, a.b=1}",
                      "{a={b=1}, a.c=2}", "{a=[], a.b=1}", "{a=[{}], a.b=1}", "{a.b.c=1, a.b=2}", "{a.b={}, a.b.c=1}",
                      '{a=1, "\\u0061"=2}'):
            self.value_is_wrong(value)

    def test_something_is_missing(self):
        for value in ("{a}", "{a=}", "{=1}", "{a 1}", "{a==1}", "{.a=1}", "{a.=1}", "{1}", "{a=1, b}", "{a=1, =2}", "{[a]}", "{a:1}",
                      "{ {} }", "{a=1=2}"):
            self.value_is_wrong(value)

    def test_that_do_not_end(self):
        for value in ("{", "{a", "{a=", "{a=1", "{a=1,", "{a=1, b=2", "{a=1]", "{a={}", "{ "):
            self.is_wrong("k = " + value)
            self.is_wrong("k = " + value + "\n")

    def test_something_behind_the_end(self):
        for value in ("{}}", "{a=1}}", "{} 1", "{}1", "{}{}", "{} = 1", "{},", "{}]"):
            self.is_wrong("k = " + value)

    def test_a_comment_right_behind(self):
        self.says("k = {}#c", "{}", "k")


class WithinOneAnother(Checks, unittest.TestCase):
    def test_arrays_thirty_two_deep(self):
        self.says("k = " + "[" * 32 + "]" * 32, "[" * 32 + "]" * 32, "k")
        self.says("k = " + "[" * 32 + "1" + "]" * 32, "[" * 32 + "1" + "]" * 32, "k")
        self.is_wrong("k = " + "[" * 33 + "]" * 33)
        self.is_wrong("k = " + "[" * 33 + "1" + "]" * 33)

    def test_tables_in_place_thirty_two_deep(self):
        self.says("k = " + "{a=" * 31 + "{}" + "}" * 31, '{"a":' * 31 + "{}" + "}" * 31, "k")
        self.says("k = " + "{a=" * 32 + "1" + "}" * 32, '{"a":' * 32 + "1" + "}" * 32, "k")
        self.is_wrong("k = " + "{a=" * 32 + "{}" + "}" * 32)
        self.is_wrong("k = " + "{a=" * 33 + "1" + "}" * 33)

    def test_both_count_together(self):
        self.says("k = " + "[{a=" * 16 + "1" + "}]" * 16, '[{"a":' * 16 + "1" + "}]" * 16, "k")
        self.is_wrong("k = " + "[{a=" * 16 + "[]" + "}]" * 16)
        self.is_wrong("k = " + "{a=[" * 16 + "{}" + "]}" * 16)

    def test_how_deep_is_counted_anew_beside(self):
        deep = "[" * 31 + "]" * 31
        self.says(f"k = [{deep},{deep},{deep}]\nm = {deep}", f"[{deep},{deep},{deep}]", "k")
        self.is_wrong(f"k = [{deep},[{deep}],{deep}]")

    def test_tables_by_keys_and_headers_do_not_count(self):
        deep = "[" * 32 + "]" * 32
        self.says("[a.b.c]\nd.e.f = " + deep, deep, "a.b.c.d.e.f")
        self.says("[[a]]\n[[a.b]]\nc = " + deep, deep, "a.0.b.0.c")
        self.says("k = {a.b.c.d = " + "[" * 31 + "]" * 31 + "}", "[" * 31 + "]" * 31, "k.a.b.c.d")

    def test_thousands_deep_is_only_wrong(self):
        for text in ("[" * 16000, "[" * 8000 + "]" * 8000, "{a=" * 5000, "[{a=" * 4000):
            self.assertFalse(is_right("k = " + text))


if __name__ == "__main__":
    unittest.main()
