"""The errors that the functions of this package raise ([14])."""


class BookError(Exception):
    """The base class of all of them."""


class BadValue(BookError):
    """The argument at the zero-based position `at` is not as described."""

    def __init__(self, at):
        self.at = at


class BadPattern(BookError):
    """The text of a pattern does not go on at the zero-based position `at`."""

    def __init__(self, at):
        self.at = at


class NoMessage(BookError):
    """No message is called `name`."""

    def __init__(self, name):
        self.name = name


class NoTongue(BookError):
    """No tongue is called `name`."""

    def __init__(self, name):
        self.name = name


class NotSaid(BookError):
    """No value says `text`."""

    def __init__(self, text):
        self.text = text


class Twofold(BookError):
    """Two values, `first` and `second`, say the same text."""

    def __init__(self, first, second):
        self.first = first
        self.second = second


class Shared(BookError):
    """The message `name` says `text`, too."""

    def __init__(self, name, text):
        self.name = name
        self.text = text
