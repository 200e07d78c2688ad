"""The calls on one text, one behind another."""

from settingsbook.forms import form_of
from settingsbook.reader import read_root
from settingsbook.refusals import NothingRead, TooLong, WrongInput
from settingsbook.things import ARRAY_KIND, TABLE_KIND, Array, Table
from settingsbook.ways import at_way

BEGIN = 0
READ = 1
SHOW = 2

LEAST_MOST = 1
GREATEST_MOST = 1048576


class Book:
    """What has been read: the root, or None while nothing has."""

    def __init__(self):
        self.root = None


class Calls:
    """The numbers that are handed in, and the place up to which they have been taken."""

    def __init__(self, numbers):
        self.numbers = numbers
        self.place = 0

    def has_more(self):
        return self.place < len(self.numbers)

    def take_number(self):
        number = self.numbers[self.place]
        self.place += 1
        return number

    def take_row(self):
        length = self.take_number()
        row = self.numbers[self.place:self.place + length]
        self.place += length
        return row


def answers(calls):
    """For each call how many numbers are answered, then these."""
    book = Book()
    waiting = Calls(calls)
    given = []
    while waiting.has_more():
        answer = answer_or_refusal(book, waiting)
        given.append(len(answer))
        given.extend(answer)
    return given


def answer_or_refusal(book, waiting):
    try:
        return answer_next(book, waiting)
    except WrongInput:
        return [-1]
    except TooLong:
        return [-2]
    except NothingRead:
        return [-4]


def answer_next(book, waiting):
    """Each call takes all its numbers before it is carried out, so that a refusal leaves none over."""
    call = waiting.take_number()
    if call == BEGIN:
        return begin(book)
    if call == READ:
        return read(book, waiting.take_row())
    if call == SHOW:
        most = waiting.take_number()
        return show(book, waiting.take_row(), most)
    return kind(book, waiting.take_row())


def begin(book):
    book.root = None
    return [0]


def read(book, text):
    book.root = read_root(text)
    return [0]


def show(book, way, most):
    form = form_of(thing_at(book, way))
    allowed = most if LEAST_MOST <= most <= GREATEST_MOST else 0
    if len(form) > allowed:
        raise TooLong()
    return [len(form)] + form


def kind(book, way):
    thing = thing_at(book, way)
    if isinstance(thing, Table):
        return [TABLE_KIND, len(thing.entries)]
    if isinstance(thing, Array):
        return [ARRAY_KIND, len(thing.members)]
    return [thing.kind, thing.size]


def thing_at(book, way):
    if book.root is None:
        raise NothingRead()
    return at_way(book.root, way)
