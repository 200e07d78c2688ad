"""The refusals, one error each."""


class WrongInput(Exception):
    """A text that isn't right, or a way that is no key or leads to nothing: -1."""


class TooLong(Exception):
    """A form that is longer than the most that's asked for: -2."""


class NothingRead(Exception):
    """Nothing has been read yet: -4."""
