"""Characters and their bytes: UTF-8."""

from settingsbook.refusals import WrongInput


def is_character(number):
    return 0 <= number < 0xD800 or 0xE000 <= number <= 0x10FFFF


def octets_of_character(number):
    if number < 0x80:
        return [number]
    last = 0x80 + number % 64
    if number < 0x800:
        return [0xC0 + number // 64, last]
    middle = 0x80 + number // 64 % 64
    if number < 0x10000:
        return [0xE0 + number // 4096, middle, last]
    return [0xF0 + number // 262144, 0x80 + number // 4096 % 64, middle, last]


def length_by_first(octet):
    """How many bytes a character has that begins with this byte."""
    if octet < 0x80:
        return 1
    if 0xC0 <= octet < 0xE0:
        return 2
    if 0xE0 <= octet < 0xF0:
        return 3
    if 0xF0 <= octet < 0xF8:
        return 4
    raise WrongInput()


def number_of_character(octets):
    """The number that the bytes of one character hold, if they are the bytes of one."""
    first_bits = (0, 128, 32, 16, 8)
    number = octets[0] % first_bits[len(octets)]
    for octet in octets[1:]:
        number = number * 64 + octet - 0x80
    return number


def check_characters(octets):
    place = 0
    while place < len(octets):
        length = length_by_first(octets[place])
        one = octets[place:place + length]
        number = number_of_character(one)
        # Bytes that are too many, cut off, or don't belong behind the first: written anew it has others.
        if not is_character(number) or octets_of_character(number) != one:
            raise WrongInput()
        place += length
