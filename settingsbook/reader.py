"""Reading a text: lines, headers, keys and their values."""

from settingsbook.characters import check_characters
from settingsbook.cursor import Cursor
from settingsbook.forms import text_form
from settingsbook.keyparts import read_key
from settingsbook.refusals import WrongInput
from settingsbook.signs import CARRIAGE_RETURN, CLOSE_CURLY, CLOSE_SQUARE, COMMA, END, EQUALS, HASH
from settingsbook.signs import LINE_FEED, OPEN_CURLY, OPEN_SQUARE
from settingsbook.tables import come_to_member, come_to_table, put_value
from settingsbook.texts import is_quote, read_quoted
from settingsbook.things import BY_HEADER, IN_PLACE, TEXT_KIND, Array, Leaf, Table
from settingsbook.words import read_word

MOST_OCTETS = 16384
DEEPEST = 32


def read_root(octets):
    """The root of what the text says."""
    if len(octets) > MOST_OCTETS:
        raise WrongInput()
    check_characters(octets)
    cursor = Cursor(octets)
    root = Table(BY_HEADER)
    table = root
    while cursor.here() != END:
        table = read_line(cursor, root, table)
    return root


def read_line(cursor, root, table):
    """Reads one line into the table; answers the table into which the next one goes."""
    cursor.skip_blanks()
    if cursor.here() == OPEN_SQUARE:
        table = read_header(cursor, root)
    elif cursor.here() not in (HASH, LINE_FEED, CARRIAGE_RETURN, END):
        read_pair(cursor, table, 0)
    cursor.finish_line()
    return table


def read_header(cursor, root):
    cursor.take(OPEN_SQUARE)
    if cursor.here() != OPEN_SQUARE:
        return come_to_table(root, read_header_key(cursor))
    cursor.take(OPEN_SQUARE)
    parts = read_header_key(cursor)
    cursor.take(CLOSE_SQUARE)
    return come_to_member(root, parts)


def read_header_key(cursor):
    cursor.skip_blanks()
    parts = read_key(cursor)
    cursor.take(CLOSE_SQUARE)
    return parts


def read_pair(cursor, table, depth):
    """Reads a key, = and a value into the table, which lies that deep in arrays and tables in place."""
    parts = read_key(cursor)
    cursor.take(EQUALS)
    cursor.skip_blanks()
    put_value(table, parts, read_value(cursor, depth))


def read_value(cursor, depth):
    octet = cursor.here()
    if is_quote(octet):
        said = read_quoted(cursor)
        return Leaf(TEXT_KIND, text_form(said), len(said))
    if octet != OPEN_SQUARE and octet != OPEN_CURLY:
        return read_word(cursor)
    # This bound also keeps the calls within calls few.
    if depth == DEEPEST:
        raise WrongInput()
    if octet == OPEN_SQUARE:
        return read_array(cursor, depth + 1)
    return read_table_in_place(cursor, depth + 1)


def read_array(cursor, depth):
    cursor.take(OPEN_SQUARE)
    members = []
    cursor.skip_around()
    while cursor.here() != CLOSE_SQUARE:
        members.append(read_value(cursor, depth))
        cursor.skip_around()
        if cursor.here() != CLOSE_SQUARE:
            cursor.take(COMMA)
            cursor.skip_around()
    cursor.take(CLOSE_SQUARE)
    return Array(members, False)


def read_table_in_place(cursor, depth):
    cursor.take(OPEN_CURLY)
    table = Table(IN_PLACE)
    cursor.skip_blanks()
    if cursor.here() != CLOSE_CURLY:
        read_pair(cursor, table, depth)
        cursor.skip_blanks()
    while cursor.here() != CLOSE_CURLY:
        cursor.take(COMMA)
        cursor.skip_blanks()
        read_pair(cursor, table, depth)
        cursor.skip_blanks()
    cursor.take(CLOSE_CURLY)
    return table
