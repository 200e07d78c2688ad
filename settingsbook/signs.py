"""Bytes by name, and the sorts of bytes that the document tells apart."""

TAB = 9
LINE_FEED = 10
CARRIAGE_RETURN = 13
SPACE = 32
DOUBLE_QUOTE = 34
HASH = 35
SINGLE_QUOTE = 39
PLUS = 43
COMMA = 44
MINUS = 45
POINT = 46
ZERO = 48
COLON = 58
EQUALS = 61
OPEN_SQUARE = 91
BACKSLASH = 92
CLOSE_SQUARE = 93
UNDERSCORE = 95
OPEN_CURLY = 123
CLOSE_CURLY = 125

# Stands where a list of bytes has ended: no byte is that great, so it equals none.
END = 256

# What a sign counts for that is no digit by any base: too much for each of them.
NO_DIGIT = 16


def is_blank(octet):
    return octet == SPACE or octet == TAB


def is_seen(octet):
    return octet == TAB or 32 <= octet <= 126 or 128 <= octet <= 255


def is_digit(octet):
    return 48 <= octet <= 57


def is_letter(octet):
    return 65 <= octet <= 90 or 97 <= octet <= 122


def digit_worth(octet):
    """What a digit counts for (by up to 16, letters small or great), or NO_DIGIT."""
    if is_digit(octet):
        return octet - 48
    if 65 <= octet <= 70:
        return octet - 55
    if 97 <= octet <= 102:
        return octet - 87
    return NO_DIGIT


def number_of(digits):
    """The number that these bytes are the digits of, by ten."""
    number = 0
    for digit in digits:
        number = number * 10 + digit - ZERO
    return number


def octets_of(text):
    return [ord(sign) for sign in text]
