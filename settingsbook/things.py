"""What a text says: leaves, arrays and tables."""

TEXT_KIND = 1
WHOLE_KIND = 2
DECIMAL_KIND = 3
TRUTH_KIND = 4
DAY_KIND = 5
ARRAY_KIND = 6
TABLE_KIND = 7

# How a table came to be: this says what may still go into it.
BY_KEYS = 1
BY_HEADER = 2
COME_BY = 3
IN_PLACE = 4


class Leaf:
    """A value with nothing within it: its kind, its form, and how many bytes it has as a text."""

    def __init__(self, kind, form, size=0):
        self.kind = kind
        self.form = form
        self.size = size


class Array:
    """Values in a row; by_headers tells whether [[ ]] made it."""

    def __init__(self, members, by_headers):
        self.members = members
        self.by_headers = by_headers


class Table:
    """Values by the parts of keys, in the order in which they came."""

    def __init__(self, made):
        self.made = made
        self.entries = {}
