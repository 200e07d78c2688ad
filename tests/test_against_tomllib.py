"""Promise 2 and 3 at large: texts by the thousand, right and wrong, as Python's own reader takes them.

Where that reader is not the document's (numbers beyond 2^63, powers of ten digits, a year 0,
nesting, keys into a table that a header has come by), no such text is made.
"""

import datetime
import decimal
import random
import re
import tomllib
import unittest

from tests.helper import is_right, shown

PIECES = [
    "a", "b", "c", "a.b", "a . b", "a.b.c", '"a"', "'b'", '"a".b', "-", "_", "1", "1.2", '""',
    " = ", "=", " ", "\t", "\n", "\n", "\n", "\r\n", "\r", "#", "# c\n", ",", ", ", ".", "[", "]", "{", "}",
    "[a]\n", "[b]\n", "[a.b]\n", "[a.b.c]\n", "[[a]]\n", "[[b]]\n", "[[a.b]]\n", "[ a . c ]\n", "[[ c ]]\n",
    "a = 1\n", "b = 2\n", "a.b = 3\n", "a.c = 4\n", "b.c = {}\n", "c = []\n", "c = [{}]\n", "a.b.c = 5\n",
    "0", "1", "-1", "+1", "0x1F", "0o17", "0b11", "1_0", "01", "1__0", "0x", "_1", "1_",
    "1.5", "-0.0", "1e3", "1E-3", "1.50e+2", "1.", ".5", "1e", "0e0", "100.00", "inf", "-inf", "+nan", "true",
    "false", "1979-05-27", "1979-02-29", "2000-02-29", "07:32:00", "24:00:00", "07:32:00.25", "1979-05-27T07:32:00",
    "1979-05-27 07:32:00Z", "1979-05-27t07:32:00.5-07:00", "1979-05-27 ", "2021-01-01T00:00:00+24:00",
    '"x"', "'y'", '"\\n\\u00e9"', '"\\q"', '"\\ud800"', '"""', "'''", '"', "'", "\\", "\\\n", '"""\nx\\\n  y"""',
    "'''\n'z''''", '""""q"""""', "\x00", "\x7f", "\x1f", "é", "\U0001f600", "[1, 2]", "[1,\n2,#c\n]", "{a = 1, b = 2}",
    "{a.b = 1, a.c = [1]}", "{a = 1,}", "[[1], [2]]", "{}", "[]",
]

OUTSIDE_TEXTS = re.compile(
    rb'"(?:[^"\\]|\\.)*"|(\d\d:\d\d:\d\d)(\.\d+)?(Z|[+-]\d\d:\d\d)?', re.DOTALL)


class Figure:
    """A decimal as it was spelled."""

    def __init__(self, spelled):
        self.spelled = spelled


def text_form(text):
    form = ""
    for sign in text:
        if sign in '"\\':
            form += "\\" + sign
        elif ord(sign) < 32:
            form += f"\\u{ord(sign):04x}"
        else:
            form += sign
    return '"' + form + '"'


def figure_form(spelled):
    bare = spelled.lstrip("+")
    if bare.lstrip("-") == "nan":
        return "nan"
    if bare.lstrip("-") == "inf":
        return bare
    negative, digits, power = decimal.Decimal(bare).as_tuple()
    whole = "".join(str(digit) for digit in digits).lstrip("0")
    cut = whole.rstrip("0")
    power += len(whole) - len(cut)
    return ("-" if negative else "") + (f"{cut}e{power}" if cut else "0e0")


def form(thing):
    if isinstance(thing, bool):
        return "true" if thing else "false"
    if isinstance(thing, str):
        return text_form(thing)
    if isinstance(thing, Figure):
        return figure_form(thing.spelled)
    if isinstance(thing, list):
        return "[" + ",".join(form(one) for one in thing) + "]"
    if isinstance(thing, dict):
        return "{" + ",".join(text_form(part) + ":" + form(one) for part, one in thing.items()) + "}"
    if isinstance(thing, (datetime.date, datetime.time)):
        return thing.isoformat()
    return str(thing)


def same_hour(match):
    """Hours as isoformat gives them, since Python's own reader doesn't keep how they stood."""
    if match.group(1) is None:
        return match.group(0)
    fraction = (match.group(2) or b".0")[1:7].ljust(6, b"0")
    zone = match.group(3) or b""
    if zone in (b"Z", b"-00:00"):
        zone = b"+00:00"
    return match.group(1) + (b"" if fraction == b"000000" else b"." + fraction) + zone


def expected(text):
    """The form as Python's own reader has it, None of a text that it refuses."""
    try:
        root = tomllib.loads(text, parse_float=Figure)
    except (tomllib.TOMLDecodeError, ValueError):
        return None
    return form(root).encode("utf-8")


def made_text(source):
    return "".join(source.choice(PIECES) for _ in range(source.randrange(1, 9)))


def made_key(source, most):
    parts = [source.choice(["a", "b", "c", '"a"', "'b'"]) for _ in range(source.randrange(1, most + 1))]
    return ".".join(parts)


def made_lines(source):
    """More often right: whole lines, with a slip here and there."""
    values = [piece for piece in PIECES if piece.strip() and piece[0] not in "#=,.]}\n\\"]
    lines = []
    # Python's own reader lets keys go into tables come by, which take a header of three parts.
    most_in_header, most_in_key = source.choice([(2, 3), (4, 1)])
    for _ in range(source.randrange(1, 7)):
        header = made_key(source, most_in_header)
        key = made_key(source, most_in_key)
        line = source.choice([f"[{header}]", f"[[{header}]]", f"{key} = {source.choice(values)}", f"{key} = 1"])
        if source.random() < 0.02:
            place = source.randrange(len(line))
            line = line[:place] + source.choice(PIECES) + line[place + 1:]
        lines.append(line.rstrip("\n"))
    return source.choice(["\n", "\r\n"]).join(lines)


class AgainstTomllib(unittest.TestCase):
    def compare(self, text):
        form_there = expected(text)
        self.assertEqual(is_right(text), form_there is not None, text)
        if form_there is not None:
            form_here = OUTSIDE_TEXTS.sub(same_hour, shown(text))
            self.assertEqual(form_here, OUTSIDE_TEXTS.sub(same_hour, form_there), text)

    def test_pieces_in_any_order(self):
        source = random.Random(20)
        for _ in range(6000):
            self.compare(made_text(source))

    def test_lines_of_keys_and_headers(self):
        source = random.Random(21)
        for _ in range(12000):
            self.compare(made_lines(source))


if __name__ == "__main__":
    unittest.main()
