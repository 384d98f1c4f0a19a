"""[13], [15], [16]: what is a book."""

import unittest

from readhome.books import fault, is_book, is_lawful
from readhome.errors import BadValue
from tests import reference
from tests.samples import (
    OTHER_THINGS, OVERVIEW, RICH, as_lists, book_of, changes, part_at, places, text, with_part)

NO_BOOKS = OTHER_THINGS + (
    ((), ()), ([], []), ((("en", "", ()),),), ((("en", "", ()),), (), ()), "ab", ["ab", ()],
    {}.get("x"), ((), OVERVIEW[1]), OVERVIEW[0], OVERVIEW[1], (OVERVIEW,), (OVERVIEW[1], OVERVIEW[0]),
    "x" * 5000, "line\nfeed~|{}", -10 ** 30, [[[[[[[[[[]]]]]]]]]], [0] * 4999, [True, [None, ["en"]]],
)


def nested(levels):
    value = ()
    for _ in range(levels):
        value = [value, (value,)] if levels < 6 else [value]
    return value


class BookCase(unittest.TestCase):
    def check(self, value, expected):
        """is_book gives what is expected, for lists as for tuples, and changes nothing."""
        for book in (value, as_lists(value)):
            before = repr(book)
            self.assertIs(is_book(book), expected, before)
            if not expected:
                self.assertIs(is_lawful(book), False, before)
                with self.assertRaises(BadValue) as caught:
                    fault(book)
                self.assertEqual(caught.exception.at, 0)
            self.assertEqual(repr(book), before)

    def check_pattern(self, pattern, expected):
        self.check(book_of(pattern), expected)

    def check_class(self, item, expected):
        self.check(book_of((), (), (item,)), expected)

    def check_arguments(self, arguments, expected):
        self.check(book_of((), arguments), expected)


class TestIsBook(BookCase):
    def test_books(self):
        for book in (OVERVIEW, RICH, ((("en", "", ()),), ())):
            self.check(book, True)

    def test_mixed_lists_and_tuples(self):
        for path in places(RICH):
            part = part_at(RICH, path)
            if isinstance(part, tuple):
                self.assertIs(is_book(with_part(RICH, path, (list(part),))), True)
                self.assertIs(is_book(with_part(RICH, path, (as_lists(part),))), True)

    def test_arguments_by_name(self):
        self.assertIs(is_book(value=OVERVIEW), True)
        self.assertIs(is_lawful(value=OVERVIEW), True)
        self.assertIs(fault(value=OVERVIEW), None)

    def test_no_books(self):
        for value in NO_BOOKS:
            self.check(value, False)
        for levels in range(1, 28):
            self.check(nested(levels), False)

    def test_one_part_changed(self):
        answers = []
        for value in changes(RICH) + changes(OVERVIEW):
            expected = reference.is_book(value)
            answers.append(expected)
            before = repr(value)
            self.assertIs(is_book(value), expected, before)
            self.assertEqual(repr(value), before)
        # Both answers are there often enough for the comparison to mean something.
        self.assertGreater(answers.count(True), 500)
        self.assertGreater(answers.count(False), 5000)

    def test_one_part_changed_in_lists(self):
        for value in changes(OVERVIEW):
            self.check(value, reference.is_book(value))


class TestNames(BookCase):
    def test_names(self):
        good = ("a", "z", "abcdefgh", "zzzzzzzz", "others", "othe", "text", "argument", "true")
        bad = ("", "abcdefghi", "other", "A", "aB", "a1", "a b", " a", "a ", "a-b", "_a", "a\n",
               "\u00e4", "=1", "`", "{", "a{", 1, 0, True, None, (), ["a"], ("a",))
        for names, expected in ((good, True), (bad, False)):
            for name in names:
                tongue = ((("en", "", ()), (name, "en", ())), ())
                message = ((("en", "", ()),), ((name, (), (("en", ()),)),))
                self.check(tongue, expected)
                self.check(message, expected)
                self.check_class((name, 1, (0,), 0, 0), expected)
                self.check_arguments(((name, ("number",)),), expected)
                self.check_arguments((("a", ("choice", ("q", name))),), expected)
                self.check_pattern((("show", name),), expected)
                self.check_pattern((("case", name, (("other", ()),)),), expected)
                self.check_pattern((("term", name, ()),), expected)
                self.check_pattern((("term", "a", ((name, ("option", "a")),)),), expected)
                self.check_pattern((("term", "a", (("a", ("option", name)),)),), expected)
                self.check_pattern((("term", "a", (("a", ("argument", name)),)),), expected)

    def test_keys(self):
        good = ["a", "abcdefgh", "male"] + [f"={number}" for number in range(31)]
        bad = ["", "=", "=31", "=00", "=01", "=007", "=030", "=100", "=-1", "=+1", "= 1", "=1 ",
               "=1a", "=a", "==1", "1", "0", "A", "abcdefghi", "=\u0663", "=\u00b2", "other ", "a=",
               "=other", "11", "x5", "+5", " 5", "5=", 0, 1, True, None, (), ("a",), ["=1"]]
        for keys, expected in ((good, True), (bad, False)):
            for key in keys:
                self.check_pattern((("case", "a", ((key, ()), ("other", ()))),), expected)
        self.check_pattern((("case", "a", (("a", ()),)),), False)
        self.check_pattern((("case", "a", (("=1", ()),)),), False)
        self.check_pattern((("case", "a", (("other", ()), ("a", ()))),), False)
        self.check_pattern((("case", "a", (("other", ()), ("other", ()))),), False)
        self.check_pattern((("case", "a", (("a", ()), ("a", ()), ("other", ()))),), False)
        self.check_pattern((("case", "a", (("=1", ()), ("a", ()), ("=1", ()), ("other", ()))),), False)


class TestTongues(BookCase):
    def test_number_of_tongues(self):
        names = ("a", "b", "c", "d", "e")
        tongues = tuple((name, "a" if at else "", ()) for at, name in enumerate(names))
        for many in range(6):
            self.check((tongues[:many], ()), 1 <= many <= 4)

    def test_parents(self):
        for second, third, expected in (
            ("a", "a", True), ("a", "b", True), ("", "a", False), ("a", "", False),
            ("b", "a", False), ("c", "a", False), ("a", "c", False), ("a", "d", False),
            ("x", "a", False), (None, "a", False), ("a", 0, False), (("a",), "a", False),
            ((), "a", False),
        ):
            self.check(((("a", "", ()), ("b", second, ()), ("c", third, ())), ()), expected)
        for first in ("a", "b", None, 0, False, (), " "):
            self.check(((("a", first, ()), ("b", "a", ())), ()), False)

    def test_different_names(self):
        self.check(((("a", "", ()), ("a", "a", ())), ()), False)
        self.check(((("a", "", ()), ("b", "a", ()), ("a", "b", ())), ()), False)

    def test_number_of_classes(self):
        classes = tuple((name, 1, (0,), 0, None) for name in ("a", "b", "c", "d", "e"))
        for many in range(6):
            self.check(book_of((), (), classes[:many]), many <= 4)
        self.check(book_of((), (), classes[:1] * 2), False)
        self.check(book_of((), (), classes[:2] + classes[:1]), False)

    def test_modulus(self):
        for modulus in range(-1, 21):
            self.check_class(("c", modulus, (0,), 0, None), modulus in (1, 2, 5, 10))
        for modulus in (True, False, None, "1", (1,), 10 ** 30):
            self.check_class(("c", modulus, (0,), 0, None), False)

    def test_residues(self):
        for modulus in (1, 2, 5, 10):
            whole = tuple(range(modulus))
            self.check_class(("c", modulus, whole, 0, None), True)
            self.check_class(("c", modulus, whole + (modulus,), 0, None), False)
            self.check_class(("c", modulus, (-1,) + whole, 0, None), False)
            self.check_class(("c", modulus, whole[:1] + whole, 0, None), False)
            self.check_class(("c", modulus, whole[1:] + whole[:1], 0, None), modulus == 1)
            self.check_class(("c", modulus, (modulus - 1,), 0, None), True)
            self.check_class(("c", modulus, (), 0, None), False)
        for residues in ((1, 0), (3, 3), (0, 2, 1), (0, True), (False, 1), (None,), ("0",),
                         ((0,),), 0, "01", None, True):
            self.check_class(("c", 10, residues, 0, None), False)

    def test_least_and_most(self):
        for least in range(-1, 33):
            for most in (None, -1, 0, 1, least - 1, least, least + 1, 29, 30, 31):
                expected = 0 <= least <= 30 and (most is None or least <= most <= 30)
                self.check_class(("c", 2, (0, 1), least, most), expected)
        for thing in (True, False, "1", (), (1,), 10 ** 30, -10 ** 30):
            self.check_class(("c", 2, (0,), thing, None), False)
            self.check_class(("c", 2, (0,), 0, thing), False)
        self.check_class(("c", 2, (0,), None, None), False)

    def test_parts_of_a_class(self):
        item = ("c", 2, (0,), 0, None)
        for many in range(5):
            self.check_class(item[:many], False)
        self.check_class(item + (None,), False)


class TestMessages(BookCase):
    def test_number_of_messages(self):
        messages = tuple((name, (), (("en", ()),)) for name in "abcdefghi")
        for many in range(10):
            self.check(((("en", "", ()),), messages[:many]), many <= 8)
        self.check(((("en", "", ()),), messages[:1] * 2), False)
        self.check(((("en", "", ()),), messages[:3] + messages[:1]), False)

    def test_number_of_arguments(self):
        arguments = tuple((name, ("word",)) for name in "abcde")
        for many in range(6):
            self.check_arguments(arguments[:many], many <= 4)
        self.check_arguments(arguments[:1] * 2, False)
        self.check_arguments((("a", ("word",)), ("b", ("word",)), ("a", ("number",))), False)

    def test_kinds(self):
        for kind in (("number",), ("word",), ("choice", ("a", "b"))):
            self.check_arguments((("a", kind),), True)
        for kind in ((), ("text",), ("choice",), ("number", ()), ("word", ()), "number", "word",
                     ("number", "word"), ("number", ("a", "b")), ("choice", "ab"), (("number",),),
                     ("choice", ("a", "b"), ()), ("choice", "a", "b"), (None,), (1,), None, True,
                     ("option", ("a", "b")), ("Number",), ("numbers",)):
            self.check_arguments((("a", kind),), False)

    def test_options(self):
        for many in range(6):
            self.check_arguments((("a", ("choice", tuple("abcde")[:many])),), 2 <= many <= 4)
        for options in (("a", "a"), ("a", "b", "a"), ("a", "b", "c", "c"), ("a", ("b",)), ("a", 1)):
            self.check_arguments((("a", ("choice", options)),), False)

    def test_forms(self):
        tongues = (("a", "", ()), ("b", "a", ()), ("c", "a", ()), ("d", "c", ()))
        for names, expected in (
            ("a", True), ("ab", True), ("ac", True), ("ad", True), ("abcd", True), ("acd", True),
            ("", False), ("b", False), ("bc", False), ("bcd", False), ("ba", False), ("acb", False),
            ("adc", False), ("aa", False), ("abb", False), ("abcc", False), ("ae", False),
            ("abcde", False), ("abcdd", False), ("aabcd", False),
        ):
            forms = tuple((name, ()) for name in names)
            self.check((tongues, (("m", (), forms),)), expected)

    def test_forty_pieces_in_a_message(self):
        tongues = (("a", "", ()), ("b", "a", ()), ("c", "a", ()), ("d", "c", ()))
        full = (("mark",),) * 8
        case = (("case", "x", (("m", full), ("other", full))),)
        for patterns, expected in (
            ((full, full, full, full), True),
            ((full + full,), False),
            # 17 pieces in a case, in branches of cases too.
            ((case * 2,), True),
            ((case * 2 + full[:6],), True),
            ((case * 2 + full[:6], ()), True),
            ((case * 2 + full[:6], full[:1]), False),
            ((case * 2, full[:6]), True),
            ((case * 2, full[:7]), False),
            ((case * 2, full[:2], full[:2], full[:2]), True),
            ((case * 2, full[:2], full[:2], full[:3]), False),
            ((case + full[:7], case[:1], ()), False),
            ((case + full[:6], case[:1], ()), True),
            (((("case", "x", (("n", case), ("other", case))),), full[:4], full[:1]), True),
            (((("case", "x", (("n", case), ("other", case))),), full[:4], full[:2]), False),
        ):
            forms = tuple((tongue[0], pattern) for tongue, pattern in zip(tongues, patterns))
            self.check((tongues, (("m", (), forms),)), expected)
        # It binds each message, not all of them together.
        form = (("a", case * 2 + full[:6]),)
        self.check((tongues, (("m", (), form), ("n", (), form))), True)


class TestPatterns(BookCase):
    def test_number_of_pieces(self):
        for many in range(10):
            self.check_pattern((("mark",),) * many, many <= 8)
            self.check_pattern((("case", "a", (("other", (("mark",),) * many),)),), many <= 8)

    def test_texts(self):
        for code in range(128):
            expected = 32 <= code <= 122 and code != 37
            self.check_pattern(text(chr(code)), expected)
            self.check_pattern(text("a" + chr(code) + "b"), expected)
        for many in (0, 1, 2, 19, 20, 21, 5000):
            self.check_pattern(text("a" * many), 1 <= many <= 20)
        for thing in ("\u00e4", "\u2028", 1, None, True, (), ("a",), ["a", "b"]):
            self.check_pattern(text(thing), False)

    def test_number_of_branches(self):
        keys = ("a", "b", "c", "=1", "=2", "d")
        for many in range(7):
            branches = tuple((key, ()) for key in keys[:many]) + (("other", ()),)
            self.check_pattern((("case", "x", branches),), many <= 4)
        self.check_pattern((("case", "x", ()),), False)

    def test_four_branches_within_one_another(self):
        pattern = (("mark",),)
        for depth in range(7):
            self.check_pattern(pattern, depth <= 4)
            pattern = (("mark",), ("case", "x", (("a", pattern), ("other", ()))))
        # An empty pattern is one, too.
        pattern = ()
        for depth in range(7):
            self.check_pattern(pattern, depth <= 4)
            pattern = (("case", "x", (("other", pattern),)),)

    def test_number_of_bindings(self):
        for many in range(6):
            bindings = tuple((name, ("option", name)) for name in "abcde"[:many])
            self.check_pattern((("term", "x", bindings),), many <= 4)
        # What is bound twice breaks a rule, but it is a book.
        self.check_pattern((("term", "x", (("a", ("option", "b")),) * 2),), True)

    def test_what_is_no_piece(self):
        for piece in (
            (), ("text",), ("text", "a", "b"), ("text", ("a",)), ("mark", ()), ("mark", "a"),
            ("show",), ("show", "a", "b"), ("show", ("a",)), ("case",), ("case", "a"),
            ("case", (("other", ()),)), ("case", "a", (("other", ()),), ()), ("term",),
            ("term", "a"), ("term", "a", (), ()), ("term", ()), ("Mark",), ("marks",), ("other",),
            "mark", "text", "a", None, 1, True, (("mark",),), (None,), (1,), (True, "a"),
            ("case", "a", ("other", ())), ("case", "a", (("other",),)), ("case", "a", "other"),
            ("case", "a", (("other", (), ()),)), ("case", "a", (("other", ("mark",)),)),
            ("case", "a", (("other", "mark"),)), ("case", "a", (("other", None),)),
            ("term", "a", (("b",),)), ("term", "a", ("b", ("option", "c"))),
            ("term", "a", (("b", "c"),)), ("term", "a", (("b", ("option",)),)),
            ("term", "a", (("b", ("option", "c", "d")),)), ("term", "a", (("b", ("choice", "c")),)),
            ("term", "a", (("b", ("option", "c"), ()),)), ("term", "a", (("b", (None, "c")),)),
            ("term", "a", (("b", (("option",), "c")),)), ("term", "a", "b"), ("term", "a", None),
        ):
            self.check_pattern((piece,), False)
            self.check_pattern((("mark",), piece), False)
            self.check_pattern((("case", "a", (("other", (piece,)),)),), False)

    def test_what_is_named_need_not_be_there(self):
        self.check_pattern((
            ("show", "x"), ("term", "y", (("z", ("argument", "v")), ("z", ("option", "w")))),
            ("case", "u", (("none", ()), ("=30", ()), ("other", ()))), ("term", "main", ()),
        ), True)


if __name__ == "__main__":
    unittest.main()
