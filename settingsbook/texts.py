"""Texts in quotes, on one line and on many."""

from settingsbook.characters import is_character, octets_of_character
from settingsbook.refusals import WrongInput
from settingsbook.signs import BACKSLASH, DOUBLE_QUOTE, LINE_FEED, NO_DIGIT, SINGLE_QUOTE
from settingsbook.signs import digit_worth, is_seen

# Behind a backslash: b t n f r, the double quote and the backslash.
ESCAPED = {98: 8, 116: 9, 110: 10, 102: 12, 114: 13, 34: 34, 92: 92}

# Behind a backslash: u and U, and how many digits follow them.
ESCAPED_DIGITS = {117: 4, 85: 8}

# Three quotes end a text on many lines; two more may stand right before them.
CLOSING_QUOTES = 3
MOST_QUOTES_AT_END = 5


def is_quote(octet):
    return octet == DOUBLE_QUOTE or octet == SINGLE_QUOTE


def read_quoted(cursor):
    """The bytes that the text says whose first quote stands here."""
    quote = cursor.here()
    if cursor.ahead(1) == quote and cursor.ahead(2) == quote:
        return read_many_lines(cursor)
    return read_one_line(cursor)


def read_one_line(cursor):
    quote = cursor.here()
    cursor.take(quote)
    said = []
    while cursor.here() != quote:
        said.extend(read_within(cursor, quote))
    cursor.take(quote)
    return said


def read_many_lines(cursor):
    quote = cursor.here()
    cursor.place += CLOSING_QUOTES
    cursor.skip_line_end()
    said = []
    quotes = count_quotes(cursor, quote)
    while quotes < CLOSING_QUOTES:
        if quotes > 0:
            cursor.place += quotes
            said.extend([quote] * quotes)
        elif cursor.line_end_length() > 0:
            cursor.skip_line_end()
            said.append(LINE_FEED)
        elif quote == DOUBLE_QUOTE and is_line_joined(cursor):
            cursor.take(BACKSLASH)
            cursor.skip_blanks_and_line_ends()
        else:
            said.extend(read_within(cursor, quote))
        quotes = count_quotes(cursor, quote)
    cursor.place += quotes
    said.extend([quote] * (quotes - CLOSING_QUOTES))
    return said


def count_quotes(cursor, quote):
    """How many quotes stand here in a row, as far as they can belong to one text."""
    count = 0
    while count < MOST_QUOTES_AT_END and cursor.ahead(count) == quote:
        count += 1
    return count


def is_line_joined(cursor):
    """Whether a backslash stands here with only blanks behind it on its line."""
    if cursor.here() != BACKSLASH:
        return False
    start = cursor.place
    cursor.take(BACKSLASH)
    cursor.skip_blanks()
    joined = cursor.line_end_length() > 0
    cursor.place = start
    return joined


def read_within(cursor, quote):
    """What the next sign between quotes says, be it a byte or a backslash with what follows."""
    octet = cursor.here()
    if octet == BACKSLASH and quote == DOUBLE_QUOTE:
        return read_escaped(cursor)
    if not is_seen(octet):
        raise WrongInput()
    cursor.take(octet)
    return [octet]


def read_escaped(cursor):
    cursor.take(BACKSLASH)
    sign = cursor.here()
    if sign in ESCAPED:
        cursor.take(sign)
        return [ESCAPED[sign]]
    if sign in ESCAPED_DIGITS:
        cursor.take(sign)
        return read_numbered(cursor, ESCAPED_DIGITS[sign])
    raise WrongInput()


def read_numbered(cursor, length):
    """The bytes of the character whose number stands here in that many digits by 16."""
    number = 0
    for step in range(length):
        worth = digit_worth(cursor.ahead(step))
        if worth == NO_DIGIT:
            raise WrongInput()
        number = number * 16 + worth
    if not is_character(number):
        raise WrongInput()
    cursor.place += length
    return octets_of_character(number)
