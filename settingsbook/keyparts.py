"""Keys: parts with points between."""

from settingsbook.refusals import WrongInput
from settingsbook.signs import MINUS, POINT, UNDERSCORE, is_digit, is_letter
from settingsbook.texts import is_quote, read_one_line


def is_bare(octet):
    return is_letter(octet) or is_digit(octet) or octet == MINUS or octet == UNDERSCORE


def read_key(cursor):
    """The key's parts, a tuple of bytes each; the blanks behind the key are gone past too."""
    parts = [read_part(cursor)]
    cursor.skip_blanks()
    while cursor.here() == POINT:
        cursor.take(POINT)
        cursor.skip_blanks()
        parts.append(read_part(cursor))
        cursor.skip_blanks()
    return parts


def read_part(cursor):
    if is_quote(cursor.here()):
        return tuple(read_one_line(cursor))
    start = cursor.place
    while is_bare(cursor.here()):
        cursor.place += 1
    if cursor.place == start:
        raise WrongInput()
    return tuple(cursor.octets[start:cursor.place])
