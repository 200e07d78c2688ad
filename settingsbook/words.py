"""Values that are no text, array or table: words that go on up to a blank or another end."""

from settingsbook.days import day_or_hour, is_day
from settingsbook.figures import decimal, whole_number
from settingsbook.refusals import WrongInput
from settingsbook.signs import CLOSE_CURLY, CLOSE_SQUARE, COMMA, END, HASH, SPACE
from settingsbook.signs import is_blank, is_digit, octets_of
from settingsbook.things import DECIMAL_KIND, TRUTH_KIND, Leaf

TRUTHS = ("true", "false")

# Decimals without digits: how they are spelled, and their form.
WITHOUT_DIGITS = (
    ("inf", "inf"),
    ("+inf", "inf"),
    ("-inf", "-inf"),
    ("nan", "nan"),
    ("+nan", "nan"),
    ("-nan", "nan"),
)


def read_word(cursor):
    """The leaf that the word says which begins here."""
    word = take_word(cursor)
    # Only a day goes on behind a space, and only with an hour.
    if is_day(word) and cursor.here() == SPACE and is_digit(cursor.ahead(1)):
        cursor.take(SPACE)
        word = word + [SPACE] + take_word(cursor)
    leaf = leaf_of(word)
    if leaf is None:
        raise WrongInput()
    return leaf


def take_word(cursor):
    start = cursor.place
    while not is_word_end(cursor):
        cursor.place += 1
    return cursor.octets[start:cursor.place]


def is_word_end(cursor):
    octet = cursor.here()
    if is_blank(octet) or cursor.line_end_length() > 0:
        return True
    return octet in (COMMA, CLOSE_SQUARE, CLOSE_CURLY, HASH, END)


def leaf_of(word):
    """The word's leaf, or None if it's of no sort."""
    leaf = fixed_word(word)
    if leaf is None:
        leaf = whole_number(word)
    if leaf is None:
        leaf = decimal(word)
    if leaf is None:
        leaf = day_or_hour(word)
    return leaf


def fixed_word(word):
    for spelled in TRUTHS:
        if word == octets_of(spelled):
            return Leaf(TRUTH_KIND, word)
    for spelled, form in WITHOUT_DIGITS:
        if word == octets_of(spelled):
            return Leaf(DECIMAL_KIND, octets_of(form))
    return None
