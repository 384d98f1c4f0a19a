"""[14]: the errors."""

import unittest

from readhome.errors import (
    BadPattern, BadValue, BookError, NoMessage, NoTongue, NotSaid, Shared, Twofold)

ATTRIBUTES = {
    BadValue: ("at",),
    BadPattern: ("at",),
    NoMessage: ("name",),
    NoTongue: ("name",),
    NotSaid: ("text",),
    Twofold: ("first", "second"),
    Shared: ("name", "text"),
}

THINGS = (0, 3, True, None, "", "ann", ["a", [1]], (1, "a"), ((), ()))


class TestErrors(unittest.TestCase):
    def made(self):
        """Each class with attributes and an error, made by place and by name."""
        for error, names in ATTRIBUTES.items():
            for at in range(len(THINGS)):
                things = [THINGS[(at + step) % len(THINGS)] for step in range(len(names))]
                yield error, names, things, error(*things)
                yield error, names, things, error(**dict(zip(names, things)))
                backwards = dict(reversed(list(zip(names, things))))
                yield error, names, things, error(**backwards)

    def test_attributes_are_the_very_things(self):
        for error, names, things, made in self.made():
            for name, thing in zip(names, things):
                self.assertIs(getattr(made, name), thing, error)
            self.assertEqual(set(vars(made)), set(names), error)

    def test_list_that_was_passed_is_kept_as_it_is(self):
        for error in (NoMessage, NoTongue, NotSaid):
            thing = ["a"]
            made = error(thing)
            thing.append("b")
            self.assertIs(getattr(made, ATTRIBUTES[error][0]), thing)

    def test_caught_by_its_own_class_and_the_bases(self):
        for error, _, _, made in self.made():
            for caught in (error, BookError, Exception):
                with self.assertRaises(caught):
                    raise made

    def test_caught_by_none_of_the_others(self):
        for error, _, _, made in self.made():
            for other in [*ATTRIBUTES, ValueError, LookupError, TypeError, ArithmeticError]:
                self.assertEqual(isinstance(made, other), other is error)

    def test_bases(self):
        self.assertEqual(BookError.__bases__, (Exception,))
        for error in ATTRIBUTES:
            self.assertEqual(error.__bases__, (BookError,))
        self.assertEqual(set(BookError.__subclasses__()), set(ATTRIBUTES))

    def test_arguments_are_needed_and_no_others_taken(self):
        for error, names in ATTRIBUTES.items():
            with self.assertRaises(TypeError):
                error()
            with self.assertRaises(TypeError):
                error(*range(len(names) + 1))
            with self.assertRaises(TypeError):
                error(*range(len(names) - 1))


if __name__ == "__main__":
    unittest.main()
