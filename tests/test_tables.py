"""Promise 2: what keys and headers may and may not come to, and the order that is kept."""

import unittest

from tests.helper import Checks


class ByKeys(Checks, unittest.TestCase):
    def test_the_last_part_must_not_be_there(self):
        for first in ("a = 1", "a = ''", "a = []", "a = {}", "a.x = 1", "a = [{}]", "a = {x = 1}"):
            self.is_wrong(first + "\na = 2")
            self.is_wrong(first + "\na = {}")
            self.is_wrong("[t]\n" + first + "\na = 2")

    def test_the_last_part_must_not_be_there_by_a_header(self):
        for header in ("[t.a]", "[[t.a]]", "[t.a.b]", "[[t.a.b]]"):
            self.is_wrong(header + "\n[t]\na = 1")

    def test_tables_made_by_keys_are_gone_into(self):
        self.says("a.b = 1\na.c = 2", '{"a":{"b":1,"c":2}}')
        self.says("a.b.c = 1\na.b.d = 2\na.e.f = 3\na.g = 4", '{"a":{"b":{"c":1,"d":2},"e":{"f":3},"g":4}}')
        self.says("[t]\na.b = 1\na.c = 2", '{"t":{"a":{"b":1,"c":2}}}')
        self.says("[[t]]\na.b = 1\na.c = 2\n[[t]]\na.b = 3", '{"t":[{"a":{"b":1,"c":2}},{"a":{"b":3}}]}')

    def test_what_is_no_table_is_not(self):
        for value in ("1", "'x'", "1.5", "true", "1979-05-27", "[]", "[1]", "[{}]", "[{b = 1}]"):
            self.is_wrong(f"a = {value}\na.c = 1")
            self.is_wrong(f"x.a = {value}\nx.a.c = 1")
            self.is_wrong(f"a = {value}\na.0 = 1")

    def test_tables_in_place_are_not(self):
        self.is_wrong("a = {}\na.b = 1")
        self.is_wrong("a = {b = 1}\na.c = 1")
        self.is_wrong("a = {b.c = 1}\na.b.d = 1")
        self.is_wrong("x.a = {}\nx.a.b = 1")

    def test_tables_made_by_headers_are_not(self):
        self.is_wrong("[t.a]\n[t]\na.b = 1")
        self.is_wrong("[t.a]\nx = 1\n[t]\na.y = 1")
        self.is_wrong("[t.a.b]\nx = 1\n[t]\na.b.y = 1")

    def test_tables_come_by_are_not(self):
        self.is_wrong("[t.a.b]\n[t]\na.c = 1")
        self.is_wrong("[[t.a.b]]\n[t]\na.c = 1")
        self.is_wrong("[t.a.b.c]\n[t]\na.b.x = 1")

    def test_arrays_made_by_headers_are_not(self):
        self.is_wrong("[[t.a]]\n[t]\na.b = 1")
        self.is_wrong("[[t]]\n[[t.a]]\n[t.b]\n[[t.a]]\n[t.a]\n")

    def test_a_table_made_by_keys_is_no_value_any_more(self):
        self.is_wrong("a.b.c = 1\na.b = 2")
        self.is_wrong("a.b.c = 1\na = 2")
        self.is_wrong("a.b = 1\na.b.c = 2")


class ByAHeader(Checks, unittest.TestCase):
    def test_lines_below_go_into_it(self):
        self.says("a = 1\n[t]\na = 2\nb = 3\n[u]\na = 4", '{"a":1,"t":{"a":2,"b":3},"u":{"a":4}}')
        self.says("[t]\n[t.u]\na = 1\n[t.u.v]\na = 2", '{"t":{"u":{"a":1,"v":{"a":2}}}}')

    def test_what_is_not_there_is_made_on_the_way(self):
        self.says("[a.b.c]", '{"a":{"b":{"c":{}}}}')
        self.says("[a.b.c]\n[a.b.d]\n[a.e]", '{"a":{"b":{"c":{},"d":{}},"e":{}}}')

    def test_a_table_come_by_may_be_come_to(self):
        self.says("[a.b]\nx = 1\n[a]\ny = 2", '{"a":{"b":{"x":1},"y":2}}')
        self.says("[a.b.c]\n[a.b]\nx = 1\n[a]\ny = 2", '{"a":{"b":{"c":{},"x":1},"y":2}}')
        self.says("[[a.b]]\n[a]\ny = 2", '{"a":{"b":[{}],"y":2}}')

    def test_but_once_alone(self):
        self.is_wrong("[a]\n[a]")
        self.is_wrong("[a.b]\n[a]\n[a]")
        self.is_wrong("[a]\nx = 1\n[b]\n[a]\ny = 1")
        self.is_wrong("[a.b]\n[a.b]")
        self.is_wrong("[a]\n['a']")
        self.is_wrong("[a.b]\n[a.c]\n[a.b]")

    def test_a_table_made_by_a_header_may_lie_on_the_way(self):
        self.says("[a]\nx = 1\n[a.b]\ny = 2\n[c]\n[a.d]", '{"a":{"x":1,"b":{"y":2},"d":{}},"c":{}}')

    def test_a_table_made_by_keys_may_lie_on_the_way(self):
        self.says("a.b = 1\n[a.c]\nx = 2", '{"a":{"b":1,"c":{"x":2}}}')
        self.says("[f]\na.c = 1\na.t.s = 2\n[f.a.x]\ny = 3\n[f.a.t.z]", '{"f":{"a":{"c":1,"t":{"s":2,"z":{}},"x":{"y":3}}}}')
        self.says("a.b = 1\n[[a.c]]", '{"a":{"b":1,"c":[{}]}}')

    def test_but_is_not_come_to(self):
        self.is_wrong("a.b = 1\n[a]")
        self.is_wrong("[f]\na.c = 1\n[f.a]")
        self.is_wrong("[f]\na.t.c = 1\n[f.a.t]")
        self.is_wrong("a.b = 1\n[[a]]")

    def test_what_is_no_table_is_not_come_to(self):
        for value in ("1", "'x'", "true", "[]", "[{}]", "{}", "{b = 1}", "1979-05-27", "inf"):
            self.is_wrong(f"a = {value}\n[a]")
            self.is_wrong(f"[t]\na = {value}\n[t.a]")

    def test_what_is_no_table_does_not_lie_on_the_way(self):
        for value in ("1", "'x'", "true", "[]", "[1]", "1979-05-27", "nan"):
            self.is_wrong(f"a = {value}\n[a.b]")
            self.is_wrong(f"a = {value}\n[[a.b]]")
            self.is_wrong(f"[t]\na = {value}\n[t.a.b]")

    def test_a_table_in_place_does_not_lie_on_the_way(self):
        for value in ("{}", "{b = 1}", "{b = {}}", "{b.c = 1}"):
            self.is_wrong(f"a = {value}\n[a.b]")
            self.is_wrong(f"a = {value}\n[a.x]")
            self.is_wrong(f"a = {value}\n[a.b.c]")
            self.is_wrong(f"a = {value}\n[[a.x]]")
            self.is_wrong(f"x.a = {value}\n[x.a.y]")

    def test_an_array_that_is_a_value_does_not_lie_on_the_way(self):
        self.is_wrong("a = [{}]\n[a.b]")
        self.is_wrong("a = [{b = 1}]\n[a.c]")
        self.is_wrong("a = [{b = {}}]\n[a.b.c]")
        self.is_wrong("a = [{}]\n[[a.b]]")

    def test_an_array_made_by_headers_is_not_come_to(self):
        self.is_wrong("[[a]]\n[a]")
        self.is_wrong("[[a.b]]\n[a.b]")

    def test_parts_with_digits_are_keys(self):
        self.says("[[a]]\n[a.0]", '{"a":[{"0":{}}]}')

    def test_a_header_does_not_begin_where_the_last_one_is(self):
        self.says("[a]\n[b]\n[a.b]", '{"a":{"b":{}},"b":{}}')


class ByTwoBrackets(Checks, unittest.TestCase):
    def test_one_more_each_time(self):
        self.says("[[a]]\nx = 1\n[[a]]\n[[a]]\nx = 2", '{"a":[{"x":1},{},{"x":2}]}')
        self.says("[[a.b]]\n[[a.b]]\nx = 1", '{"a":{"b":[{},{"x":1}]}}')

    def test_the_last_table_lies_on_the_way(self):
        self.says("[[a]]\n[a.b]\nx = 1\n[[a]]\n[a.b]\nx = 2\n[a.c]", '{"a":[{"b":{"x":1}},{"b":{"x":2},"c":{}}]}')
        self.says("[[a]]\n[[a.b]]\nx = 1\n[[a.b]]\n[[a]]\n[[a.b]]\ny = 2", '{"a":[{"b":[{"x":1},{}]},{"b":[{"y":2}]}]}')
        self.says("[[a]]\n[[a.b]]\n[a.b.c]\nx = 1\n[[a.b]]\n[a.b.c]", '{"a":[{"b":[{"c":{"x":1}},{"c":{}}]}]}')

    def test_a_table_of_such_an_array_is_come_to_once(self):
        self.is_wrong("[[a]]\n[a.b]\n[a.b]")
        self.is_wrong("[[a]]\nb = 1\n[a.b]")
        self.is_wrong("[[a]]\nb = 1\n[[a.b]]")
        self.is_wrong("[[a]]\nb = []\n[[a.b]]")
        self.is_wrong("[[a]]\n[a.b]\n[[a.b]]")
        self.is_wrong("[[a]]\n[[a.b]]\n[a.b]")

    def test_keys_may_come_again_in_the_next(self):
        self.says("[[a]]\nx = 1\n[[a]]\nx = 1", '{"a":[{"x":1},{"x":1}]}')
        self.is_wrong("[[a]]\nx = 1\nx = 1")

    def test_what_is_there_otherwise(self):
        for first in ("a = 1", "a = []", "a = [{}]", "a = [{}, {}]", "a = {}", "a.b = 1", "[a]", "[a.b]", "[[a.b]]", "a = 'x'"):
            self.is_wrong(first + "\n[[a]]")

    def test_go_on_behind_other_tables(self):
        self.says("[[a]]\n[b]\n[[a]]\n[c]", '{"a":[{},{}],"b":{},"c":{}}')

    def test_the_way_makes_tables_come_by(self):
        self.says("[[a.b.c]]\n[a.b]\nx = 1\n[a]\ny = 1", '{"a":{"b":{"c":[{}],"x":1},"y":1}}')
        self.is_wrong("[[a.b]]\n[[a]]")


class TheOrder(Checks, unittest.TestCase):
    def test_of_keys(self):
        self.says("c = 1\na = 2\nb = 3", '{"c":1,"a":2,"b":3}')
        self.says("b.z = 1\na = 2\nb.a = 3", '{"b":{"z":1,"a":3},"a":2}')

    def test_of_tables(self):
        self.says("[c]\n[a]\n[b]\n[c.z]\n[c.a]", '{"c":{"z":{},"a":{}},"a":{},"b":{}}')

    def test_a_table_come_by_stays_at_its_place(self):
        self.says("[b.x]\n[a]\n[b]\nk = 1", '{"b":{"x":{},"k":1},"a":{}}')
        self.says("[c.b.x]\n[c.a]\n[c.b]\nk = 1\n[c]\nz = 1", '{"c":{"b":{"x":{},"k":1},"a":{},"z":1}}')

    def test_an_array_stays_at_its_place(self):
        self.says("[[b]]\n[a]\n[[b]]\nk = 1", '{"b":[{},{"k":1}],"a":{}}')

    def test_at_large(self):
        parts = [f"k{(number * 7) % 1000}" for number in range(1000)]
        text = "\n".join(f"{part} = {number}" for number, part in enumerate(parts))
        form = "{" + ",".join(f'"{part}":{number}' for number, part in enumerate(parts)) + "}"
        self.says(text, form)


if __name__ == "__main__":
    unittest.main()
