"""What the tests of several modules need."""

import unittest

from readhome.errors import BadValue, NoMessage, NoTongue
from tests.samples import OTHER_THINGS, OVERVIEW, as_lists, book_of

NO_BOOKS = OTHER_THINGS + (((), ()), book_of((("show", "x"),)), OVERVIEW[0], (OVERVIEW,))
NO_NAMES = OTHER_THINGS + ("gone", "foundx", "foun", "n", "FOUND", ("found",), ["en"], "en ")
BIG = 123456789012345678901234567890
LONG = "abcdefghij" * 10


class BookCase(unittest.TestCase):
    def check_raises(self, error, attribute, thing, function, *arguments):
        before = repr(arguments)
        with self.assertRaises(error) as caught:
            function(*arguments)
        self.assertIs(type(caught.exception), error)
        self.assertIs(getattr(caught.exception, attribute), thing)
        self.assertEqual(repr(arguments), before)

    def check_bad(self, at, function, *arguments):
        self.check_raises(BadValue, "at", at, function, *arguments)

    def check_first_errors(self, function, *further):
        """Errors of a function of (book, name, tongue, ..), whatever the further arguments are."""
        for rest in (further, (None,) * len(further)):
            for book in NO_BOOKS:
                self.check_bad(0, function, book, "found", "en", *rest)
                self.check_bad(0, function, as_lists(book), None, None, *rest)
            for name in NO_NAMES:
                self.check_raises(NoMessage, "name", name, function, OVERVIEW, name, "en", *rest)
                self.check_raises(NoMessage, "name", name, function, OVERVIEW, name, "gone", *rest)
                self.check_raises(NoTongue, "name", name, function, OVERVIEW, "found", name, *rest)
