"""Whole numbers and decimals: each reader answers a leaf, or None of a word that is none."""

from settingsbook.signs import MINUS, PLUS, POINT, UNDERSCORE, ZERO, digit_worth, octets_of
from settingsbook.things import DECIMAL_KIND, WHOLE_KIND, Leaf

# Whole numbers go from minus this to below it: 2^63.
WHOLE_BOUND = 9223372036854775808

# The second sign of 0x, 0o and 0b.
BASES = {120: 16, 111: 8, 98: 2}

POWER_SIGNS = (69, 101)
MOST_POWER_DIGITS = 9


def digits_within(octets, base):
    """The worths of the digits, or None where it's not digits with one _ at most between two."""
    worths = []
    behind_digit = False
    for octet in octets:
        if octet == UNDERSCORE and behind_digit:
            behind_digit = False
        else:
            worth = digit_worth(octet)
            if worth >= base:
                return None
            worths.append(worth)
            behind_digit = True
    return worths if behind_digit else None


def leading_digits(octets):
    """Digits by ten whose first is no 0 unless it's the only one, or None."""
    worths = digits_within(octets, 10)
    if worths is None or len(worths) > 1 and worths[0] == 0:
        return None
    return worths


def is_negative(word):
    return word[:1] == [MINUS]


def without_sign(word):
    return word[1:] if word[:1] == [MINUS] or word[:1] == [PLUS] else word


def number_by(worths, base):
    """The number, or one beyond all whole numbers if it's so great."""
    number = 0
    for worth in worths:
        number = number * base + worth
        # Thousands of digits would only make it greater still.
        if number > WHOLE_BOUND:
            return number
    return number


def whole_number(word):
    if word[:1] == [ZERO] and len(word) > 1 and word[1] in BASES:
        base = BASES[word[1]]
        worths = digits_within(word[2:], base)
    else:
        base = 10
        worths = leading_digits(without_sign(word))
    if worths is None:
        return None
    number = number_by(worths, base)
    if is_negative(word):
        number = -number
    if not -WHOLE_BOUND <= number < WHOLE_BOUND:
        return None
    return Leaf(WHOLE_KIND, octets_of(str(number)))


def place_of(octets, signs):
    """Where the first of these signs stands, or how many bytes there are if none does."""
    for place, octet in enumerate(octets):
        if octet in signs:
            return place
    return len(octets)


def decimal(word):
    unsigned = without_sign(word)
    power_place = place_of(unsigned, POWER_SIGNS)
    point_place = place_of(unsigned[:power_place], (POINT,))
    if point_place == len(unsigned):
        return None
    whole = leading_digits(unsigned[:point_place])
    behind_point = []
    if point_place < power_place:
        behind_point = digits_within(unsigned[point_place + 1:power_place], 10)
    power = 0
    if power_place < len(unsigned):
        power = power_of_ten(unsigned[power_place + 1:])
    if whole is None or behind_point is None or power is None:
        return None
    form = decimal_form(whole + behind_point, power - len(behind_point))
    if is_negative(word):
        form = [MINUS] + form
    return Leaf(DECIMAL_KIND, form)


def power_of_ten(octets):
    worths = digits_within(without_sign(octets), 10)
    if worths is None or len(worths) > MOST_POWER_DIGITS:
        return None
    power = number_by(worths, 10)
    return -power if is_negative(octets) else power


def decimal_form(worths, power):
    """The form of the whole number with these digits, times ten to that power."""
    first = 0
    while first < len(worths) and worths[first] == 0:
        first += 1
    if first == len(worths):
        return octets_of("0e0")
    behind_last = len(worths)
    while worths[behind_last - 1] == 0:
        behind_last -= 1
    digits = [ZERO + worth for worth in worths[first:behind_last]]
    shifted = power + len(worths) - behind_last
    return digits + octets_of(f"e{shifted}")
