"""A walk over a list of bytes, with the steps that all readers share."""

from settingsbook.refusals import WrongInput
from settingsbook.signs import CARRIAGE_RETURN, END, HASH, LINE_FEED, is_blank, is_seen


class Cursor:
    """A list of bytes and the place up to which it has been read."""

    def __init__(self, octets):
        self.octets = octets
        self.place = 0

    def ahead(self, steps):
        """The byte that many steps on, or END."""
        place = self.place + steps
        if place < len(self.octets):
            return self.octets[place]
        return END

    def here(self):
        return self.ahead(0)

    def take(self, octet):
        """Goes past this byte, which must stand here."""
        if self.here() != octet:
            raise WrongInput()
        self.place += 1

    def line_end_length(self):
        """How many bytes the line's end has that stands here, 0 if none does."""
        if self.here() == LINE_FEED:
            return 1
        if self.here() == CARRIAGE_RETURN and self.ahead(1) == LINE_FEED:
            return 2
        return 0

    def skip_line_end(self):
        self.place += self.line_end_length()

    def skip_blanks(self):
        while is_blank(self.here()):
            self.place += 1

    def skip_blanks_and_line_ends(self):
        while is_blank(self.here()) or self.line_end_length() > 0:
            self.place += max(1, self.line_end_length())

    def skip_comment(self):
        """Goes past a comment's seen bytes; what stands behind them is the caller's to look at."""
        if self.here() == HASH:
            while is_seen(self.here()):
                self.place += 1

    def skip_around(self):
        """Goes past all that may stand around a value in an array."""
        self.skip_blanks_and_line_ends()
        while self.here() == HASH:
            self.skip_comment()
            self.skip_blanks_and_line_ends()

    def finish_line(self):
        """Goes past what may stand behind a line's content, and the line's end."""
        self.skip_blanks()
        self.skip_comment()
        if self.here() != END and self.line_end_length() == 0:
            raise WrongInput()
        self.skip_line_end()
