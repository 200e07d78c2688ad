"""Days and hours: each question is asked of a list of bytes."""

from settingsbook.signs import POINT, SPACE, is_digit, number_of
from settingsbook.things import DAY_KIND, Leaf

GREAT_T = 84
SMALL_T = 116
GREAT_Z = 90
SMALL_Z = 122

DAY_LENGTH = 10
HOUR_LENGTH = 8
ZONE_LENGTH = 6

MONTH_LENGTHS = (31, 28, 31, 30, 31, 30, 31, 31, 30, 31, 30, 31)


def fits(octets, pattern):
    """Whether a digit stands wherever the pattern has 0, and elsewhere the pattern's own sign."""
    if len(octets) != len(pattern):
        return False
    return all([fits_sign(octet, sign) for octet, sign in zip(octets, pattern)])


def fits_sign(octet, sign):
    return is_digit(octet) if sign == "0" else octet == ord(sign)


def month_length(year, month):
    if month == 2 and year % 4 == 0 and (year % 100 != 0 or year % 400 == 0):
        return 29
    return MONTH_LENGTHS[month - 1]


def is_day(octets):
    if not fits(octets, "0000-00-00"):
        return False
    year = number_of(octets[:4])
    month = number_of(octets[5:7])
    day = number_of(octets[8:])
    return 1 <= month <= 12 and 1 <= day <= month_length(year, month)


def is_hour_and_minute(octets):
    """Asked of what fits 00:00 already."""
    return number_of(octets[:2]) < 24 and number_of(octets[3:]) < 60


def is_hour(octets):
    whole = octets[:HOUR_LENGTH]
    if not fits(whole, "00:00:00"):
        return False
    if not is_hour_and_minute(whole[:5]) or number_of(whole[6:]) >= 60:
        return False
    return is_nothing_or_fraction(octets[HOUR_LENGTH:])


def is_nothing_or_fraction(octets):
    if len(octets) == 0:
        return True
    return octets[0] == POINT and len(octets) > 1 and all([is_digit(octet) for octet in octets[1:]])


def is_zone(octets):
    if not fits(octets, "+00:00") and not fits(octets, "-00:00"):
        return False
    return is_hour_and_minute(octets[1:])


def zone_length(octets):
    """How many bytes at the end tell the zone."""
    if octets[-1:] == [GREAT_Z] or octets[-1:] == [SMALL_Z]:
        return 1
    return ZONE_LENGTH if is_zone(octets[-ZONE_LENGTH:]) else 0


def day_or_hour(word):
    """A leaf, or None of a word that is none."""
    if is_day(word) or is_hour(word):
        return Leaf(DAY_KIND, word)
    return day_with_hour(word)


def day_with_hour(word):
    day = word[:DAY_LENGTH]
    between = word[DAY_LENGTH:DAY_LENGTH + 1]
    behind = word[DAY_LENGTH + 1:]
    if not is_day(day) or between not in ([GREAT_T], [SMALL_T], [SPACE]):
        return None
    hour_length = len(behind) - zone_length(behind)
    hour = behind[:hour_length]
    zone = behind[hour_length:]
    if not is_hour(hour):
        return None
    if zone == [SMALL_Z]:
        zone = [GREAT_Z]
    return Leaf(DAY_KIND, day + [GREAT_T] + hour + zone)
