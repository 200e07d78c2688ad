"""Ways: keys that lead to what lies within tables and arrays."""

from settingsbook.cursor import Cursor
from settingsbook.keyparts import read_key
from settingsbook.refusals import WrongInput
from settingsbook.signs import END, is_digit, number_of
from settingsbook.things import Array, Table

MOST_OCTETS = 4096
MOST_INDEX_DIGITS = 5


def at_way(root, way):
    """What lies at the way's end."""
    thing = root
    for part in parts_of_way(way):
        thing = within(thing, part)
    return thing


def parts_of_way(way):
    if len(way) > MOST_OCTETS:
        raise WrongInput()
    if len(way) == 0:
        return []
    cursor = Cursor(way)
    parts = read_key(cursor)
    if cursor.here() != END:
        raise WrongInput()
    return parts


def within(thing, part):
    if isinstance(thing, Table) and part in thing.entries:
        return thing.entries[part]
    if isinstance(thing, Array) and is_index(part):
        index = number_of(part)
        if index < len(thing.members):
            return thing.members[index]
    raise WrongInput()


def is_index(part):
    return 1 <= len(part) <= MOST_INDEX_DIGITS and all([is_digit(octet) for octet in part])
