"""The one form in which what a text says is shown."""

from settingsbook.signs import BACKSLASH, CLOSE_CURLY, CLOSE_SQUARE, COLON, COMMA, DOUBLE_QUOTE
from settingsbook.signs import OPEN_CURLY, OPEN_SQUARE, octets_of
from settingsbook.things import Leaf, Table

DIGITS = "0123456789abcdef"


def text_form(octets):
    form = [DOUBLE_QUOTE]
    for octet in octets:
        form.extend(sign_form(octet))
    form.append(DOUBLE_QUOTE)
    return form


def sign_form(octet):
    if octet == DOUBLE_QUOTE or octet == BACKSLASH:
        return [BACKSLASH, octet]
    if octet < 32:
        return octets_of("\\u00" + DIGITS[octet // 16] + DIGITS[octet % 16])
    return [octet]


def form_of(thing):
    """The form's bytes."""
    form = []
    # Tables by headers may lie within one another by the thousand: no call within a call.
    waiting = [thing]
    while len(waiting) > 0:
        piece = waiting.pop()
        if isinstance(piece, list):
            form.extend(piece)
        elif isinstance(piece, Leaf):
            form.extend(piece.form)
        else:
            waiting.extend(list(reversed(pieces_of(piece))))
    return form


def pieces_of(thing):
    """An array's or table's form in order: bytes, and between them the values within."""
    if isinstance(thing, Table):
        return table_pieces(thing)
    return array_pieces(thing)


def table_pieces(table):
    pieces = [[OPEN_CURLY]]
    for part, thing in table.entries.items():
        if len(pieces) > 1:
            pieces.append([COMMA])
        pieces.append(text_form(part) + [COLON])
        pieces.append(thing)
    pieces.append([CLOSE_CURLY])
    return pieces


def array_pieces(array):
    pieces = [[OPEN_SQUARE]]
    for thing in array.members:
        if len(pieces) > 1:
            pieces.append([COMMA])
        pieces.append(thing)
    pieces.append([CLOSE_SQUARE])
    return pieces
