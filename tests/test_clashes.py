"""[1], [2], [27], [28]: messages that can be read back, and the first texts that cannot."""

import itertools
import random
import unittest

from readhome.books import is_lawful
from readhome.clashes import clash, is_readable
from readhome.reading import readings
from readhome.saying import say
from tests import reference, slow
from tests.cases import BookCase
from tests.randoms import lawful_forms, short_book
from tests.samples import OVERVIEW, RICH, SEX, as_lists, book_of, is_plain, text

NUMBER, WORD = ("number",), ("word",)
MARK = ("mark",)
N, W = (("n", NUMBER),), (("w", WORD),)
C = (("c", ("choice", ("x", "y"))),)
FOUR = (("f", ("choice", ("p", "q", "r", "s"))),)
TWO_WORDS = (("a", WORD), ("b", WORD))
TWO_NUMBERS = (("a", NUMBER), ("b", NUMBER))
BOTH = (("show", "a"), ("show", "b"))
SHOW_N, SHOW_W = ("show", "n"), ("show", "w")
ODD = ("odd", 2, (1,), 0, None)


def apart(piece):
    """The two arguments with the piece between them."""
    return (BOTH[0], piece, BOTH[1])


def by_option(first, second):
    """A pattern that says the one for the option x, the other for the option y."""
    return (("case", "c", (("x", first), ("other", second))),)


def by_number(*pairs):
    """A case on n; the last of the patterns is that of all other numbers."""
    return ("case", "n", pairs[:-1] + (("other", pairs[-1]),))


class ClashCase(BookCase):
    def check(self, book, name, tongue, expected):
        for given in (book, as_lists(book)):
            before = repr(given)
            found = clash(given, name, tongue)
            self.assertEqual(found, expected)
            self.assertTrue(is_plain(found))
            self.assertIs(is_readable(given, name, tongue), expected is None)
            self.assertEqual(repr(given), before)
        if expected is not None:
            told, first, second = expected
            self.assertEqual(say(book, name, tongue, first), told)
            self.assertEqual(say(book, name, tongue, second), told)
            self.assertEqual(readings(book, name, tongue, told, 2), (first, second))

    def check_main(self, pattern, arguments, expected, classes=(), before=()):
        book = book_of(pattern, arguments, classes, before)
        self.assertTrue(is_lawful(book))
        self.check(book, "main", "en", expected)


class TestClashes(ClashCase):
    def test_book_of_the_overview(self):
        self.check(OVERVIEW, "found", "en", None)
        self.check(OVERVIEW, "names", "en", ("aaa", ("a", "aa"), ("aa", "a")))

    def test_rich_book(self):
        for tongue in ("en", "sl"):
            self.check(RICH, "own", tongue, None)
            self.check(RICH, "count", tongue, None)
            self.check(RICH, "all", tongue, ("0 none of his a", (0, "a", "male"), (0, "a", "female")))
        self.check(RICH, "own", "ch", ("a|", ("male", "a"), ("female", "a")))
        self.check(RICH, "count", "ch", None)
        self.check(RICH, "all", "ch", ("a|3", (3, "a", "male"), (3, "a", "female")))

    def test_no_arguments(self):
        self.check_main((), (), None)
        self.check_main(text("a") + (MARK,), (), None)

    def test_two_words(self):
        self.check_main(BOTH, TWO_WORDS, ("aaa", ("a", "aa"), ("aa", "a")))
        self.check_main(BOTH[::-1], TWO_WORDS, ("aaa", ("a", "aa"), ("aa", "a")))
        for piece in (MARK, ("text", " "), ("text", "A"), ("text", "7"), ("text", "a b"), ("text", "xy,")):
            self.check_main(apart(piece), TWO_WORDS, None)
        self.check_main(apart(("text", "a")), TWO_WORDS, ("aaaa", ("a", "aa"), ("aa", "a")))
        self.check_main(apart(("text", "b")), TWO_WORDS, ("abba", ("a", "ba"), ("ab", "a")))
        self.check_main(apart(("text", "ba")), TWO_WORDS, ("ababaa", ("a", "baa"), ("aba", "a")))
        self.check_main(apart(("text", "aba")), TWO_WORDS, ("aababaa", ("a", "baa"), ("aab", "a")))
        self.check_main(apart(("case", "c", (("x", (MARK,)), ("other", ())))), TWO_WORDS + C, (
            "aaa", ("a", "aa", "y"), ("aa", "a", "y")))

    def test_two_numbers(self):
        self.check_main(BOTH, TWO_NUMBERS, ("110", (1, 10), (11, 0)))
        for piece in (MARK, ("text", " "), ("text", "a"), ("text", "0-0")):
            self.check_main(apart(piece), TWO_NUMBERS, None)
        self.check_main(apart(("text", "0")), TWO_NUMBERS, ("10100", (1, 100), (101, 0)))
        self.check_main(apart(("text", "5")), TWO_NUMBERS, ("1550", (1, 50), (15, 0)))

    def test_words_and_numbers_side_by_side(self):
        self.check_main((SHOW_N, SHOW_W), N + W, None)
        self.check_main((SHOW_W, SHOW_N), N + W, None)

    def test_number_beside_digits(self):
        self.check_main((SHOW_N,) + text("1"), N, None)
        self.check_main(text("1") + (SHOW_N,), N, None)
        self.check_main(by_option((SHOW_N,), (SHOW_N,) + text("0")), N + C, ("10", (1, "y"), (10, "x")))
        self.check_main(by_option((SHOW_N,), text("0") + (SHOW_N,)), N + C, None)
        self.check_main(by_option((SHOW_N,), text("12") + (SHOW_N,)), N + C, ("120", (0, "y"), (120, "x")))
        self.check_main(by_option((SHOW_N,), text("7")), N + C, ("7", (0, "y"), (1, "y")))
        self.check_main((by_number(("=1", text("2")), (SHOW_N,)),), N, ("2", (1,), (2,)))
        self.check_main((by_number(("=1", text("1")), (SHOW_N,)),), N, None)
        self.check_main((by_number(("=1", text("01")), (SHOW_N,)),), N, None)

    def test_word_beside_letters(self):
        self.check_main((SHOW_W,) + text("a"), W, None)
        self.check_main(by_option((SHOW_W,), (SHOW_W,) + text("s")), C + W, ("as", ("x", "as"), ("y", "a")))
        self.check_main(by_option((SHOW_W,), text("ba") + (SHOW_W,)), W + C, (
            "baa", ("a", "y"), ("baa", "x")))
        self.check_main(by_option((SHOW_W,) + text("!"), (SHOW_W,) + text("s")), C + W, None)
        self.check_main(by_option((SHOW_W,) + text("b"), (SHOW_W,) + text("s")), C + W, None)
        self.check_main(by_option(text("b") + (SHOW_W,), (SHOW_W,) + text("s")), C + W, (
            "bs", ("x", "s"), ("y", "b")))

    def test_every_letter_and_digit(self):
        for sign in "abcdefghijklmnopqrstuvwxyz":
            self.check_main(by_option((SHOW_W,), text(sign) + (SHOW_W,)), W + C, (
                sign + "a", ("a", "y"), (sign + "a", "x")))
        for sign in "123456789":
            self.check_main(by_option((SHOW_N,), text(sign) + (SHOW_N,)), N + C, (
                sign + "0", (0, "y"), (int(sign) * 10, "x")))
            self.check_main(by_option((SHOW_N,) + text("-"), text(f"1{sign}-")), N + C, (
                f"1{sign}-", (0, "y"), (1, "y")))
        for sign in " !$&'()*+,-./:;<=>?@ABCXYZ[]^_`|":
            piece = (MARK,) if sign == "|" else text(sign)
            self.check_main(by_option((SHOW_W,), piece + (SHOW_W,)), W + C, None)
            self.check_main(by_option((SHOW_N,), piece + (SHOW_N,)), N + C, None)

    def test_arguments_that_are_not_shown(self):
        self.check_main((), N, ("", (0,), (1,)))
        self.check_main((), W, ("", ("a",), ("b",)))
        self.check_main((), C, ("", ("x",), ("y",)))
        self.check_main((MARK,) + text("b"), C, ("|b", ("x",), ("y",)))
        self.check_main((SHOW_W,), W + N, ("a", ("a", 0), ("a", 1)))
        self.check_main((SHOW_W,) + text(" x"), C + W, ("a x", ("x", "a"), ("y", "a")))
        self.check_main((SHOW_N,), (("w", WORD),) + N, ("0", ("a", 0), ("b", 0)))
        # On one of the ways alone, even if a shorter text is said once.
        self.check_main(by_option(text("a"), text("bcd") + (SHOW_W,)), C + W, ("a", ("x", "a"), ("x", "b")))
        self.check_main(by_option((SHOW_W,), text("b!")), C + W, ("b!", ("y", "a"), ("y", "b")))

    def test_options_that_say_the_same(self):
        self.check_main(by_option(text("a"), text("a")), C, ("a", ("x",), ("y",)))
        self.check_main(by_option(text("a"), text("b")), C, None)
        self.check_main(by_option((), (MARK,)), C, None)
        case = ("case", "f", (("q", text("a")), ("s", text("a")), ("other", text("b"))))
        self.check_main((case,), FOUR, ("a", ("q",), ("s",)))
        case = ("case", "f", (("q", text("c")), ("s", text("c")), ("other", text("b"))))
        self.check_main((case,), FOUR, ("b", ("p",), ("r",)))
        case = ("case", "f", (("q", text("a")), ("s", text("a")), ("p", ()), ("other", text("b"))))
        self.check_main((case,), FOUR, ("a", ("q",), ("s",)))

    def test_classes_of_numbers(self):
        for modulus, residues in ((2, (1,)), (5, (1, 4)), (10, (0, 3, 7))):
            it = ("it", modulus, residues, 0, None)
            its = [number for number in range(30) if number % modulus in residues]
            rest = [number for number in range(30) if number not in its]
            case = by_number(("it", text("a")), text("b"))
            # A class that is told alone hides the number, beside the number it does not.
            self.check_main((case,), N, ("a", (its[0],), (its[1],)), (it,))
            self.check_main((SHOW_N, case), N, None, (it,))
            case = by_number(("it", (SHOW_N,)), text("b"))
            self.check_main((case,), N, ("b", (rest[0],), (rest[1],)), (it,))
            case = by_number(("it", text("a") + (SHOW_N,)), (SHOW_N,))
            self.check_main((case,), N, None, (it,))
        # All the same but for one number.
        case = by_number(("it", ()), ("=8", text("a")), text("b"))
        self.check_main((case,), N, ("", (0,), (1,)), (("it", 1, (0,), 0, 7),))
        case = by_number(("it", ()), ("=8", text("a")), (SHOW_N,))
        self.check_main((case,), N, None, (("it", 1, (0,), 7, 7),))

    def test_classes_keep_numbers_apart(self):
        # Odd numbers with 0 behind them are even; even ones with 1 behind them are odd.
        behind = ("case", "n", (("odd", (SHOW_N,) + text("0")), ("other", (SHOW_N,) + text("1"))))
        self.check_main((behind,), N, None, (ODD,))
        behind = ("case", "n", (("odd", (SHOW_N,) + text("0")), ("other", (SHOW_N,))))
        self.check_main((behind,), N, ("10", (1,), (10,)), (ODD,))
        behind = ("case", "n", (("odd", (SHOW_N,) + text("1")), ("other", (SHOW_N,))))
        self.check_main((behind,), N, None, (ODD,))
        # Two numbers side by side: one of them has an end of its own.
        alone = (("other", apart(MARK) + (MARK,)),)
        self.check_main((("case", "a", (("=7", BOTH),) + alone),), TWO_NUMBERS, None)
        self.check_main((("case", "a", (("tens", BOTH),) + alone),), TWO_NUMBERS, (
            "10100", (10, 100), (1010, 0)), (("tens", 10, (0,), 0, None),))
        self.check_main((("case", "a", (("tens", BOTH),) + alone),), TWO_NUMBERS, None, (
            ("tens", 10, (0,), 20, 20),))

    def test_bounds_of_classes(self):
        # Numbers to 30 in tens, then `+`; numbers with a 0 behind them, then `+`: 30 and 3, but not 40.
        low = ("low", 10, (0,), 10, 30)
        case = by_number(("low", (SHOW_N,)), ("=3", text("30")), (MARK,) + (SHOW_N,))
        self.check_main((case,), N, ("30", (3,), (30,)), (low,))
        case = by_number(("low", (SHOW_N,)), ("=4", text("40")), (MARK,) + (SHOW_N,))
        self.check_main((case,), N, None, (low,))
        case = by_number(("low", (SHOW_N,)), ("=4", text("40")), (MARK,) + (SHOW_N,))
        self.check_main((case,), N, ("40", (4,), (40,)), (("low", 10, (0,), 10, None),))
        case = by_number(("low", (SHOW_N,)), ("=4", text("1230")), (MARK,) + (SHOW_N,))
        self.check_main((case,), N, ("1230", (4,), (1230,)), (("low", 10, (0,), 10, None),))

    def test_keys_of_single_numbers(self):
        self.check_main((by_number(("=1", text("x")), ("=2", text("x")), (SHOW_N,)),), N, ("x", (1,), (2,)))
        self.check_main((by_number(("=2", text("x")), ("=1", text("y")), (SHOW_N,)),), N, None)
        self.check_main((by_number(("=7", text("1")), ("=30", text("0")), (SHOW_N,)),), N, ("0", (0,), (30,)))
        self.check_main((by_number(("=0", ()), ("=1", text("12")), (SHOW_N,)),), N, ("12", (1,), (12,)))
        self.check_main((by_number(("=0", ()), ("=12", text("1")), ("=1", text("12")), (SHOW_N,)),), N, None)
        self.check_main((by_number(("=12", (MARK,)), (SHOW_N,)),), N, None)

    def test_terms(self):
        own = ("own", (("s", SEX), ("w", WORD)), (("en", (
            ("case", "s", (("male", text("his ")), ("other", text("her ")))), SHOW_W)),))
        free = ("term", "own", (("s", ("argument", "s")), ("w", ("argument", "w"))))
        his = ("term", "own", (("s", ("option", "male")), ("w", ("argument", "w"))))
        arguments = W + (("s", SEX),)
        self.check_main((free,), arguments, None, (), (own,))
        self.check_main((his,), arguments, ("his a", ("a", "male"), ("a", "female")), (), (own,))
        self.check_main((his,), W, None, (), (own,))
        twice = ("term", "two", (("a", ("argument", "v")), ("b", ("argument", "w"))))
        two = ("two", TWO_WORDS, (("en", BOTH),))
        self.check_main((twice,), W + (("v", WORD),), ("aaa", ("a", "aa"), ("aa", "a")), (), (two,))

    def test_between_two_ways_and_within_one(self):
        # Within a way `aaa`; a text between two ways is shorter, or as long or longer.
        self.check_main(by_option(BOTH, text("ab")), TWO_WORDS + C, ("ab", ("a", "a", "y"), ("a", "b", "x")))
        self.check_main(by_option(BOTH, (BOTH[0], ("text", "!"), BOTH[1])), TWO_WORDS + C, (
            "aaa", ("a", "aa", "x"), ("aa", "a", "x")))
        self.check_main(by_option(BOTH, (BOTH[0], ("text", "s"), BOTH[1])), TWO_WORDS + C, (
            "aaa", ("a", "aa", "x"), ("aa", "a", "x")))
        self.check_main(by_option((BOTH[0], ("text", "b"), BOTH[1]), (BOTH[0], ("text", "ba"), BOTH[1])), (
            TWO_WORDS + C), ("abaa", ("a", "a", "y"), ("a", "aa", "x")))

    def test_ties(self):
        # Of equally long texts the first: digits before letters, a space before both.
        for first, second in (("a", "b"), ("1", "a"), (" ", "1"), ("A", "a"), ("-", "0"), ("z", "|")):
            pieces = [(MARK,) if sign == "|" else text(sign) for sign in (first, second)]
            for order in itertools.permutations(pieces + pieces):
                case = ("case", "f", tuple(zip(("p", "q", "r", "other"), order)))
                at = [place for place, piece in enumerate(order) if piece == pieces[0]]
                self.check_main((case,), FOUR, (first, ("pqrs"[at[0]],), ("pqrs"[at[1]],)))
        # The first text is not always that of the first of the ways, nor the one with the first part.
        self.check_main(by_option((SHOW_W,) + text("b"), text("b") + (SHOW_W,)), W + C, (
            "bb", ("b", "x"), ("b", "y")))
        self.check_main(by_option((SHOW_N,) + text("2"), text("2") + (SHOW_N,)), N + C, (
            "22", (2, "x"), (2, "y")))
        book = book_of((("show", "a"), ("text", "b"), ("show", "b")), TWO_WORDS)
        self.assertEqual(clash(book, "main", "en")[0], min(
            told for told in map("".join, itertools.product("abc", repeat=4))
            if len(readings(book, "main", "en", told, 2)) == 2))

    def test_two_least_of_many_values(self):
        self.check_main((), FOUR, ("", ("p",), ("q",)))
        self.check_main(text("x"), FOUR[::-1] + N, ("x", ("p", 0), ("p", 1)))
        case = ("case", "f", (("s", text("a")), ("r", text("a")), ("q", text("a")), ("other", text("b"))))
        self.check_main((case,), FOUR, ("a", ("q",), ("r",)))
        # The values of other ways than those that show the text first.
        case = by_number(("=9", text("a")), ("=8", text("a")), ("=5", text("a")), ("=7", text("a")), (SHOW_N,))
        self.check_main((case,), N, ("a", (5,), (7,)))
        three = TWO_WORDS + W
        self.check_main(BOTH + (SHOW_W,), three, ("aaaa", ("a", "a", "aa"), ("a", "aa", "a")))
        self.check_main((SHOW_W,) + BOTH, three, ("aaaa", ("a", "a", "aa"), ("a", "aa", "a")))

    def test_long_texts(self):
        told = "b" + "a" * 18 + "c"
        self.check_main(apart(("text", told)), TWO_WORDS, (
            "a" + told * 2 + "a", ("a", told + "a"), ("a" + told, "a")))
        # Four texts side by side are one.
        pieces = (("text", told),) * 3 + (("text", "a" * 19 + "d"),)
        whole = told * 3 + "a" * 19 + "d"
        self.check_main(BOTH[:1] + pieces + BOTH[1:], TWO_WORDS, (
            "a" + whole * 2 + "a", ("a", whole + "a"), ("a" + whole, "a")))
        # A text that repeats itself meets itself sooner.
        self.check_main(BOTH[:1] + (("text", "ab" * 10),) * 4 + BOTH[1:], TWO_WORDS, (
            "a" + "ab" * 41 + "a", ("a", "aba"), ("aab", "a")))
        # The end of one text is the beginning of the other.
        self.check_main(by_option(text("abcde") + (SHOW_W,), (SHOW_W,) + text("cdefg")), C + W, (
            "abcdefg", ("x", "fg"), ("y", "ab")))
        self.check_main(by_option(text("12345") + (SHOW_N,), (SHOW_N,) + text("34567")), C + N, (
            "1234567", ("x", 67), ("y", 12)))
        # A number that is not 0 does not begin with 0.
        self.check_main(by_option(text("12300") + (SHOW_N,), (SHOW_N,) + text("30045")), C + N, (
            "1230045", ("x", 45), ("y", 12)))
        self.check_main(by_option(text("12300") + (SHOW_N,), (SHOW_N,) + text("3000")), C + N, (
            "123000", ("x", 0), ("y", 12)))
        self.check_main(by_option(text("12300") + (SHOW_N,), (SHOW_N,) + text("30001")), C + N, (
            "1230030001", ("x", 30001), ("y", 12300)))

    def test_long_texts_of_numbers(self):
        told = "1" * 15 + "0"
        for pattern in (
            apart(("text", told)), BOTH[:1] + (("text", told),) * 2 + BOTH[1:],
            apart(("text", "0" * 12)), apart(("text", "0" * 5 + "1")), apart(("text", "12" * 8)),
        ):
            book = book_of(pattern, TWO_NUMBERS, ())
            self.check(book, "main", "en", self.expected_by_signs(book, 70))
        classes = (("odd", 2, (1,), 4, None), ("low", 5, (0, 1), 0, 21))
        for first, second in itertools.product(("odd", "low", "=7", "other"), repeat=2):
            ends = [() if key == "other" else ((key, (("text", "12121"), ("show", name))),)
                    for key, name in ((first, "a"), (second, "b"))]
            rest = (("other", (("text", "9"), MARK)),)
            pattern = (("case", "a", ends[0] + rest), ("case", "b", ends[1] + rest))
            book = book_of(pattern, TWO_NUMBERS, classes)
            self.check(book, "main", "en", self.expected_by_signs(book, 40))

    def expected_by_signs(self, book, most):
        told = slow.Reader(book, "main", "en").clash_text(most)
        return told and (told, *readings(book, "main", "en", told, 2))

    def test_at_the_bounds(self):
        # 16 ways of 80 signs each, and words on both sides.
        four = ("choice", ("p", "q", "r", "s"))
        cases = tuple(("case", name, tuple(
            (key, text("a" * 19 + sign)) for key, sign in zip(("p", "q", "r", "other"), "cdef")))
            for name in ("x", "y"))
        rest = (("text", "b" * 20), ("text", "b" * 20))
        arguments = TWO_WORDS + (("x", four), ("y", four))
        whole = ("a" * 19 + "c") * 2 + "b" * 40
        self.check_main(BOTH[:1] + cases + rest + BOTH[1:], arguments, (
            "a" + whole * 2 + "a", ("a", whole + "a", "p", "p"), ("a" + whole, "a", "p", "p")))
        # The ways end in other signs, and so do all of their texts.
        self.check_main(rest + BOTH[:1] + cases, (TWO_WORDS[0],) + arguments[2:], None)
        # 24 ways that differ in the middle alone.
        case = by_number(("=0", text("cc")), ("=1", text("cd")), ("=2", text("dc")), (
            by_number(("=3", text("dd")), ("=4", text("ef")), text("fe")),))
        leaf = ("leaf", N, (("en", (case,)),))
        term = ("term", "leaf", (("n", ("argument", "n")),))
        case = ("case", "x", tuple(zip(("p", "q", "r", "other"), (
            (("text", "b" * 17 + sign), term) for sign in "pqrs"))))
        pattern = BOTH[:1] + (("text", "a" * 20),) * 3 + (case,) + BOTH[1:]
        arguments = TWO_WORDS + (("x", four),) + N
        self.check_main(pattern, arguments, ("a" * 61 + "b" * 17 + "pfea", (
            "a", "a", "p", 5), ("a", "a", "p", 6)), (), (leaf,))
        # With the number behind them there is no such text, but a longer one.
        whole = "a" * 60 + "b" * 17 + "pcc"
        self.check_main(pattern + (SHOW_N,), arguments, ("a" + whole * 2 + "a0", (
            "a", whole + "a", "p", 0), ("a" + whole, "a", "p", 0)), (), (leaf,))

    def test_arguments_by_name(self):
        self.assertEqual(clash(tongue="en", name="found", book=OVERVIEW), None)
        self.assertIs(is_readable(tongue="en", name="names", book=OVERVIEW), False)

    def test_errors_in_their_order(self):
        self.check_first_errors(clash)
        self.check_first_errors(is_readable)


def plain_clash(book, name, tongue, most):
    """The clash of at most so many signs, by all values whose shown parts are that short.

    The texts of the book have no other letters than a and b, so no word needs any.
    """
    words = ["".join(word) for size in range(1, most + 1) for word in itertools.product("ab", repeat=size)]
    arguments = slow.arguments_of(book, name)
    said = {}
    for values in itertools.product(*(
            range(10 ** most) if kind[0] == "number" else words if kind[0] == "word" else kind[1]
            for _, kind in arguments)):
        told = reference.say(book, name, tongue, values)
        if len(told) <= most:
            said.setdefault(told, []).append(values)
    texts = sorted((len(told), told) for told in said if len(said[told]) > 1)
    if not texts:
        return None
    told = texts[0][1]
    return (told, *sorted(said[told], key=slow.order(arguments))[:2])


class TestRandomClashes(ClashCase):
    def test_plain_search(self):
        chance = random.Random(45)
        counts = {}
        while sum(counts.values()) < 250:
            book = short_book(chance)
            kinds = [kind for _, kind in slow.arguments_of(book, "main")]
            if kinds.count(NUMBER) > 1 or kinds.count(NUMBER) == 1 and len(kinds) > 2:
                continue
            expected = plain_clash(book, "main", "en", 3)
            found = clash(book, "main", "en")
            self.assertIs(is_readable(book, "main", "en"), found is None)
            if expected is None:
                self.assertTrue(found is None or len(found[0]) > 3)
            else:
                self.assertEqual(found, expected)
            size = expected and len(expected[0])
            counts[size] = counts.get(size, 0) + 1
        for size in (None, 0, 1, 2, 3):
            self.assertGreater(counts[size], 4)

    def test_sign_by_sign(self):
        counts = {}
        for book, name, tongue, arguments in lawful_forms(random.Random(46), 250):
            told = slow.Reader(book, name, tongue).clash_text(12)
            found = clash(book, name, tongue)
            self.assertIs(is_readable(book, name, tongue), found is None)
            if told is None:
                self.assertTrue(found is None or len(found[0]) > 12)
            else:
                self.assertEqual(found[0], told)
                self.assertEqual(found[1:], readings(book, name, tongue, told, 2))
                if len(told) < 8 and len(arguments) < 4:
                    self.assertEqual(found[1:], slow.readings(book, name, tongue, told, 2))
            size = None if found is None else min(len(found[0]), 13)
            counts[size] = counts.get(size, 0) + 1
        for size in (None, 0, 1, 2, 3, 4, 5, 6, 13):
            self.assertGreater(counts[size], 4)


if __name__ == "__main__":
    unittest.main()
