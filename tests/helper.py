"""Calls put together and answers taken apart, for all tests."""

from settingsbook.desk import answers

MOST = 1048576


def octets(text):
    """Bytes as a list of numbers; a str stands for its UTF-8."""
    return list(text.encode("utf-8") if isinstance(text, str) else text)


def begin():
    return [0]


def read(text):
    row = octets(text)
    return [1, len(row)] + row


def show(way="", most=MOST):
    row = octets(way)
    return [2, most, len(row)] + row


def kind(way=""):
    row = octets(way)
    return [3, len(row)] + row


def ask(*calls):
    """The answers to these calls, a list of numbers each."""
    given = answers([number for call in calls for number in call])
    apart = []
    place = 0
    while place < len(given):
        length = given[place]
        apart.append(given[place + 1:place + 1 + length])
        assert len(apart[-1]) == length, "an answer is shorter than it says"
        place += 1 + length
    assert len(apart) == len(calls), "not as many answers as calls"
    return apart


def is_right(text):
    answer = ask(begin(), read(text))[1]
    assert answer in ([0], [-1]), answer
    return answer == [0]


def shown(text, way=""):
    """The form at the way, as bytes; the refusal's number where there is one."""
    read_answer, show_answer = ask(begin(), read(text), show(way))[1:]
    if read_answer != [0]:
        return ("not read", read_answer)
    if show_answer[0] < 0:
        return ("not shown", show_answer)
    assert show_answer[0] == len(show_answer) - 1, "the form's length is not what it says"
    return bytes(show_answer[1:])


def kind_at(text, way=""):
    return ask(begin(), read(text), kind(way))[2]


class Checks:
    """For test cases: what a text says, and which texts are wrong."""

    def says(self, text, form, way=""):
        expected = form.encode("utf-8") if isinstance(form, str) else form
        self.assertEqual(shown(text, way), expected, text)

    def value_says(self, value, form):
        """The same value as a key's, within an array, and in a table in place."""
        value = bytes(octets(value))
        form = bytes(octets(form))
        self.says(b"k = " + value, form, "k")
        self.says(b"k=" + value + b"\n", form, "k")
        self.says(b"k = " + value + b" # c\r\n", form, "k")
        self.says(b"k = [" + value + b"," + value + b"]", b"[" + form + b"," + form + b"]", "k")
        self.says(b"k = {v=" + value + b"}", b'{"v":' + form + b"}", "k")

    def is_wrong(self, text):
        self.assertEqual(ask(begin(), read(text)), [[0], [-1]], text)

    def value_is_wrong(self, value):
        value = bytes(octets(value))
        self.is_wrong(b"k = " + value)
        self.is_wrong(b"k = " + value + b"\n")
        self.is_wrong(b"k = [" + value + b"]")
        self.is_wrong(b"k = {v = " + value + b"}")
