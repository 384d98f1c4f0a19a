"""[4] to [6], [29] to [32]: from tongue to tongue, and between messages."""

import itertools
import random
import unittest

from readhome.books import is_lawful
from readhome.clashes import clash, is_readable
from readhome.crossing import are_apart, carried, shared, which
from readhome.errors import NoMessage, NoTongue, NotSaid, Twofold
from readhome.reading import read, readings
from readhome.saying import say
from tests import reference, slow
from tests.cases import BIG, LONG, NO_BOOKS, NO_NAMES, BookCase
from tests.randoms import lawful_books, lawful_forms
from tests.samples import OTHER_THINGS, OVERVIEW, RICH, SEX, as_lists, is_plain, text
from tests.test_ways import some_values

NUMBER, WORD = ("number",), ("word",)
MARK = ("mark",)
N, W = (("n", NUMBER),), (("w", WORD),)
C = (("c", ("choice", ("x", "y"))),)
TWO_WORDS = (("a", WORD), ("b", WORD))
BOTH = (("show", "a"), ("show", "b"))
SHOW_N, SHOW_W = ("show", "n"), ("show", "w")
ODD = ("odd", 2, (1,), 0, None)
NO_TEXTS = tuple(thing for thing in OTHER_THINGS if not isinstance(thing, str))


def by_option(first, second):
    """A pattern that says the one for the option x, the other for the option y."""
    return (("case", "c", (("x", first), ("other", second))),)


def book_with(*messages, classes=()):
    """A book of one tongue; the messages are pairs (arguments, pattern), called ma, mb and so on."""
    return ((("en", "", classes),), tuple(
        ("m" + letter, arguments, (("en", pattern),))
        for letter, (arguments, pattern) in zip("abcdefgh", messages)))


# A tongue with forms of its own, one without any, and one below that.
TONGUES = (("en", "", ()), ("sl", "en", (ODD,)), ("de", "sl", ()), ("no", "en", ()))
HOME = (TONGUES, (
    ("one", N + W, (
        ("en", (SHOW_N, ("text", " of "), SHOW_W)),
        ("sl", (SHOW_W, ("case", "n", (("odd", text(" o ")), ("other", text(" e ")))), SHOW_N)),
        ("no", (SHOW_W, SHOW_N)),
    )),
    ("two", TWO_WORDS, (("en", BOTH), ("de", (BOTH[1], ("text", "-"), BOTH[0])))),
    ("all", N + W + (("s", SEX),), (
        ("en", (("term", "one", (("n", ("argument", "n")), ("w", ("argument", "w")))),
                ("case", "s", (("male", text("!")), ("other", text("?")))))),
    )),
))


class TestCarried(BookCase):
    def check(self, book, name, source, target, told, expected):
        for given in (book, as_lists(book)):
            before = repr(given)
            self.assertEqual(carried(given, name, source, target, told), expected)
            self.assertEqual(repr(given), before)

    def check_unsaid(self, book, name, source, *texts):
        for told in texts:
            for target in (book[0][0][0], source):
                self.check_raises(NotSaid, "text", told, carried, book, name, source, target, told)
                self.check_raises(
                    NotSaid, "text", told, carried, as_lists(book), name, source, target, told)

    def check_twofold(self, book, name, source, target, told, first, second):
        for given in (book, as_lists(book)):
            with self.assertRaises(Twofold) as caught:
                carried(given, name, source, target, told)
            self.assertIs(type(caught.exception), Twofold)
            self.assertEqual((caught.exception.first, caught.exception.second), (first, second))
            self.assertTrue(is_plain((caught.exception.first, caught.exception.second)))

    def test_forms_of_their_own_and_of_tongues_above(self):
        texts = {"en": "7 of ann", "sl": "ann o 7", "de": "ann o 7", "no": "ann7"}
        for source, target in itertools.product(texts, repeat=2):
            self.check(HOME, "one", source, target, texts[source], texts[target])
        texts = {"en": "8 of ann!", "sl": "8 of ann!", "de": "8 of ann!", "no": "8 of ann!"}
        for source, target in itertools.product(texts, repeat=2):
            self.check(HOME, "all", source, target, texts[source], texts[target])
        self.check(OVERVIEW, "found", "en", "en", "1 file of a", "1 file of a")
        self.check(RICH, "count", "sl", "en", "2|", "2 files")
        self.check(RICH, "count", "en", "ch", "31 files", "31 a")
        self.check(RICH, "own", "en", "ch", "his cat", "cat|")

    def test_long_values(self):
        self.check(HOME, "one", "en", "sl", f"{BIG} of {LONG}", f"{LONG} e {BIG}")
        self.check(HOME, "one", "sl", "no", f"{LONG} o {BIG + 1}", f"{LONG}{BIG + 1}")

    def test_no_value(self):
        self.check_unsaid(HOME, "one", "en", "", "ann o 7", "7 of ", "07 of ann", "7 of Ann", "7  of ann")
        self.check_unsaid(HOME, "one", "sl", "7 of ann", "ann o 8", "ann e 7", "ann o 07")
        self.check_unsaid(HOME, "two", "en", "", "a", "a-b", "7")
        self.check_unsaid(HOME, "two", "de", "aaa", "-", "a-")
        self.check_unsaid(RICH, "own", "ch", "", "|", "cat", "his cat")

    def test_several_values(self):
        for target in ("en", "sl", "de", "no"):
            self.check_twofold(HOME, "two", "en", target, "aaa", ("a", "aa"), ("aa", "a"))
            self.check_twofold(HOME, "two", "no", target, "abcde", ("a", "bcde"), ("ab", "cde"))
            self.check(HOME, "two", "de", target, "b-a", "b-a" if target == "de" else "ab")
        # One value alone, though others say another text twice.
        self.check(HOME, "two", "en", "de", "ab", "b-a")
        self.check_twofold(RICH, "own", "ch", "en", "cat|", ("male", "cat"), ("female", "cat"))
        self.check_twofold(RICH, "all", "en", "sl", "1 file of his cat", (1, "cat", "male"), (1, "cat", "female"))

    def test_there_and_back(self):
        for source, target in itertools.product(("en", "sl", "de"), repeat=2):
            for values in ((0, "a"), (1, "o"), (59, "ofo"), (60, "e"), (BIG, LONG)):
                told = say(HOME, "one", source, values)
                there = carried(HOME, "one", source, target, told)
                self.assertEqual(there, say(HOME, "one", target, values))
                self.assertEqual(carried(HOME, "one", target, source, there), told)

    def test_very_thing(self):
        self.check_unsaid(OVERVIEW, "found", "en", "x" * 240, "\n", "7" * 240)

    def test_errors_in_their_order(self):
        self.check_first_errors(carried, "en", "x")
        self.check_first_errors(carried, "gone", 0)
        for name in NO_NAMES:
            for told in ("1 file of a", "", None):
                self.check_raises(NoTongue, "name", name, carried, OVERVIEW, "found", "en", name, told)
        for thing in NO_TEXTS:
            for name in ("found", "names"):
                self.check_bad(4, carried, OVERVIEW, name, "en", "en", thing)

    def test_arguments_by_name(self):
        self.assertEqual(carried(
            text="1 of a", target="sl", source="en", name="one", book=HOME), "a o 1")

    def test_random_books(self):
        chance = random.Random(61)
        counts = {"said": 0, "unsaid": 0, "twofold": 0, "back": 0}
        for book, name, tongue, arguments in lawful_forms(chance, 90):
            target = chance.choice([row[0] for row in book[0]])
            texts = {say(book, name, tongue, values) for values in some_values(chance, arguments, 3)}
            for told in sorted(texts | {"", "a", "1", "a1"}):
                if len(told) > 7:
                    continue
                expected = slow.readings(book, name, tongue, told, 2)
                if not expected:
                    counts["unsaid"] += 1
                    self.check_unsaid(book, name, tongue, told)
                elif len(expected) == 2:
                    counts["twofold"] += 1
                    self.check_twofold(book, name, tongue, target, told, *expected)
                else:
                    counts["said"] += 1
                    there = reference.say(book, name, target, expected[0])
                    self.check(book, name, tongue, target, told, there)
                    if is_readable(book, name, target):
                        counts["back"] += target != tongue
                        self.check(book, name, target, tongue, there, told)
        self.assertGreater(min(counts.values()), 9, counts)


class TestShared(BookCase):
    def check(self, book, one, other, tongue, expected):
        for given in (book, as_lists(book)):
            before = repr(given)
            found = shared(given, one, other, tongue)
            self.assertEqual(found, expected)
            self.assertTrue(is_plain(found))
            turned = shared(given, other, one, tongue)
            self.assertEqual(turned, expected and (expected[0], expected[2], expected[1]))
            self.assertEqual(repr(given), before)
        if expected is not None:
            told, first, second = expected
            self.assertEqual(read(book, one, tongue, told), first)
            self.assertEqual(read(book, other, tongue, told), second)

    def check_two(self, first, second, expected, classes=()):
        book = book_with(first, second, classes=classes)
        self.assertTrue(is_lawful(book))
        self.check(book, "ma", "mb", "en", expected)

    def test_no_text(self):
        self.check(OVERVIEW, "found", "names", "en", None)
        self.check_two((N, (SHOW_N,)), (W, (SHOW_W,)), None)
        self.check_two(((), ()), (N, (SHOW_N,)), None)
        self.check_two(((), ()), (W, (SHOW_W,)), None)
        self.check_two(((), text("a")), ((), text("b")), None)
        self.check_two(((), text("a")), ((), text("aa")), None)
        self.check_two((W, (SHOW_W, MARK)), (W, (SHOW_W,) + text("!")), None)
        self.check_two((W, (SHOW_W,) + text("a")), (W, (SHOW_W,) + text("b")), None)
        self.check_two((W, text("a") + (SHOW_W,)), (W, text("b") + (SHOW_W,)), None)
        self.check_two((N, text("0") + (SHOW_N,)), (N, (SHOW_N,)), None)
        self.check_two((N + W, (SHOW_N, SHOW_W)), (N + W, (SHOW_W, SHOW_N)), None)

    def test_short_texts(self):
        self.check_two(((), ()), ((), ()), ("", (), ()))
        self.check_two((N, ()), (W, ()), ("", (0,), ("a",)))
        self.check_two((C, by_option(text("a"), ())), (N, ()), ("", ("y",), (0,)))
        self.check_two(((), text("a") + (MARK,)), (W, (SHOW_W, MARK)), ("a|", (), ("a",)))
        self.check_two((W, (SHOW_W,)), (W, (SHOW_W,)), ("a", ("a",), ("a",)))
        self.check_two((N, (SHOW_N,)), (N, (SHOW_N,)), ("0", (0,), (0,)))
        self.check_two((W, (SHOW_W,) + text("s")), (W, text("s") + (SHOW_W,)), ("ss", ("s",), ("s",)))
        self.check_two((N, (SHOW_N,) + text("0")), (N, (SHOW_N,)), ("10", (1,), (10,)))
        self.check_two((N, text("7") + (SHOW_N,)), (N, (SHOW_N,)), ("70", (0,), (70,)))
        self.check_two((N, (SHOW_N,) + text("00")), (N, (SHOW_N,) + text("0")), ("100", (1,), (10,)))
        self.check_two((TWO_WORDS, BOTH), (W, (SHOW_W,)), ("aa", ("a", "a"), ("aa",)))

    def test_long_texts(self):
        self.check_two((W, text("abcde") + (SHOW_W,)), (W, (SHOW_W,) + text("cdefg")), (
            "abcdefg", ("fg",), ("ab",)))
        self.check_two((W, text("a" * 19 + "b") + (SHOW_W,)), (W, (SHOW_W,) + text("b" + "c" * 19)), (
            "a" * 19 + "b" + "c" * 19, ("c" * 19,), ("a" * 19,)))
        self.check_two((W, text("a" * 20) * 4 + (SHOW_W,)), (W, (SHOW_W,) + text("b" * 20) * 4), (
            "a" * 80 + "b" * 80, ("b" * 80,), ("a" * 80,)))
        self.check_two((N, text("12300") + (SHOW_N,)), (N, (SHOW_N,) + text("30045")), (
            "1230045", (45,), (12,)))
        self.check_two((N, text("12300") + (SHOW_N,)), (N, (SHOW_N,) + text("3000")), (
            "123000", (0,), (12,)))
        # Two numbers that go on at different places: 1 then 0..0, or 1 0..0 then 0.
        two = (("a", NUMBER), ("b", NUMBER))
        self.check_two((two, BOTH[:1] + text("0" * 12) + BOTH[1:]), (N, (SHOW_N,)), (
            "1" + "0" * 13, (1, 0), (10 ** 13,)))

    def test_ties(self):
        # Of equally long texts the first, whichever way or message comes first.
        for first, second in (("a", "b"), ("1", "a"), (" ", "1"), ("A", "a"), ("-", "0"), ("a", "|")):
            pieces = [(MARK,) if sign == "|" else text(sign) for sign in (first, second)]
            for one, other in itertools.product((pieces, pieces[::-1]), repeat=2):
                self.check_two((C, by_option(*one)), (C, by_option(*other)), (
                    first, ("x" if one == pieces else "y",), ("x" if other == pieces else "y",)))
        self.check_two((W, (SHOW_W,) + text("b")), (W, text("b") + (SHOW_W,)), ("bb", ("b",), ("b",)))
        self.check_two((TWO_WORDS, BOTH[:1] + text("b") + BOTH[1:]), (W, (SHOW_W,)), (
            "aba", ("a", "a"), ("aba",)))
        self.check_two((C, by_option(text("b"), text("aa"))), (C, by_option(text("aa"), text("b"))), (
            "b", ("x",), ("y",)))

    def test_least_values(self):
        four = (("f", ("choice", ("p", "q", "r", "s"))),)
        case = ("case", "f", (("s", text("a")), ("q", text("a")), ("other", text("b"))))
        self.check_two((four, (case,)), ((), text("a")), ("a", ("q",), ()))
        self.check_two((four + N, (case,)), ((), text("b")), ("b", ("p", 0), ()))
        self.check_two((TWO_WORDS, BOTH), ((), text("abab")), ("abab", ("a", "bab"), ()))
        self.check_two((TWO_WORDS, BOTH[::-1]), ((), text("abab")), ("abab", ("b", "aba"), ()))
        case = ("case", "n", (("=9", text("a")), ("=5", text("a")), ("=7", text("a")), ("other", (SHOW_N,))))
        self.check_two((N, (case,)), (W, (SHOW_W,)), ("a", (5,), ("a",)))

    def test_messages_that_are_not_readable(self):
        self.check_two((TWO_WORDS, BOTH), (TWO_WORDS, BOTH), ("aa", ("a", "a"), ("a", "a")))
        self.check_two((N + W, (SHOW_W,)), (W + C, (SHOW_W,)), ("a", (0, "a"), ("a", "x")))
        self.check_two((N, ()), (W, (SHOW_W,)), None)
        self.check_two((TWO_WORDS, BOTH + text(".")), (W, (SHOW_W,) + text(".")), ("aa.", ("a", "a"), ("aa",)))

    def test_classes_of_numbers(self):
        case = ("case", "n", (("odd", (SHOW_N,)), ("other", (SHOW_N, MARK))))
        ten = (N, (SHOW_N,) + text("0"))
        self.check_two((N, (case,)), ten, None, (ODD,))
        self.check_two((N, (case,)), (N, (SHOW_N,) + text("1")), ("11", (11,), (1,)), (ODD,))
        self.check_two((N, (case,)), (N, (SHOW_N,) + text("0") + (MARK,)), ("10|", (10,), (1,)), (ODD,))
        low = ("low", 10, (0,), 10, 30)
        case = ("case", "n", (("low", (SHOW_N,)), ("other", (SHOW_N, MARK))))
        self.check_two((N, (case,)), (N, (SHOW_N,) + text("0")), ("10", (10,), (1,)), (low,))
        self.check_two((N, (case,)), (N, text("4") + (SHOW_N,)), None, (low,))
        self.check_two((N, (case,)), (N, text("3") + (SHOW_N,)), ("30", (30,), (0,)), (low,))

    def test_tongues_and_terms(self):
        self.check(HOME, "one", "all", "en", None)
        self.check(HOME, "one", "two", "no", None)
        self.check(HOME, "one", "two", "de", None)
        self.check(RICH, "own", "all", "ch", None)
        self.check(RICH, "count", "own", "ch", None)
        leaf = (W, (SHOW_W,))
        term = ("term", "ma", (("w", ("argument", "v")),))
        book = book_with(leaf, ((("v", WORD),), (term,) + text("s")))
        self.check(book, "ma", "mb", "en", ("as", ("as",), ("a",)))
        tongues = (("en", "", ()), ("sl", "en", ()))
        book = (tongues, (
            ("ma", W, (("en", (SHOW_W, MARK)), ("sl", (SHOW_W,)))),
            ("mb", W, (("en", text("x") + (SHOW_W,)),))))
        self.check(book, "ma", "mb", "en", None)
        self.check(book, "ma", "mb", "sl", ("xa", ("xa",), ("a",)))

    def test_at_the_bounds(self):
        # 24 ways of 80 signs on both sides.
        four, three = ("choice", ("p", "q", "r", "s")), ("choice", ("p", "q", "r"))
        arguments = W + (("x", four), ("y", three), ("z", ("choice", ("p", "q"))))

        def cases(signs):
            return tuple(
                ("case", name, tuple((key, text("a" * 19 + sign)) for key, sign in zip(keys, signs)))
                for name, keys in (("x", ("p", "q", "r", "other")), ("y", ("p", "q", "other")),
                                   ("z", ("p", "other"))))
        one = (arguments, cases("cdef") + text("a" * 20) + (SHOW_W,))
        other = (arguments, (SHOW_W,) + cases("cdeg") + text("b" * 20))
        begin, end = ("a" * 19 + "c") * 3, ("a" * 19 + "c") * 3 + "b" * 20
        self.check_two(one, other, (
            begin + "a" + end, (end[19:], "p", "p", "p"), (begin + "a", "p", "p", "p")))
        self.check_two(one, (arguments, (SHOW_W,) + cases("cdeg") + text("B")), None)

    def test_errors_in_their_order(self):
        for rest in (("names", "en"), (None, None), ("found", "gone")):
            for book in NO_BOOKS:
                self.check_bad(0, shared, book, "found", *rest)
                self.check_bad(0, shared, as_lists(book), None, *rest)
            for name in NO_NAMES:
                self.check_raises(NoMessage, "name", name, shared, OVERVIEW, name, *rest)
        for name in NO_NAMES:
            for one in ("found", "names"):
                for tongue in ("en", "gone", None):
                    self.check_raises(NoMessage, "name", name, shared, OVERVIEW, one, name, tongue)
                for other in ("found", "names"):
                    self.check_raises(NoTongue, "name", name, shared, OVERVIEW, one, other, name)
        for name in ("found", "names"):
            self.check_bad(2, shared, OVERVIEW, name, name, "en")
            self.check_bad(2, shared, as_lists(OVERVIEW), name, name, "en")

    def test_arguments_by_name(self):
        self.assertIsNone(shared(tongue="en", other="names", one="found", book=OVERVIEW))

    def test_plain_search(self):
        counts = {}
        for book in lawful_books(random.Random(62), ("ma", "mb"), 1500):
            if any([kind for _, kind in row[1]].count(NUMBER) > 1 or len(row[1]) > 2 for row in book[1]):
                continue
            found = shared(book, "ma", "mb", "en")
            size = found and min(len(found[0]), 4)
            counts[size] = counts.get(size, 0) + 1
            if counts[size] > 20:
                continue
            expected = plain_shared(book, "ma", "mb", "en", 3)
            if expected is None:
                self.assertIn(size, (None, 4))
            else:
                self.check(book, "ma", "mb", "en", expected)
        for size in (None, 0, 1, 2, 3, 4):
            self.assertGreater(counts.get(size, 0), 7, counts)

    def test_sign_by_sign(self):
        counts = {}
        for book in lawful_books(random.Random(63), ("ma", "mb"), 1500):
            found = shared(book, "ma", "mb", "en")
            size = found and min(len(found[0]), 7)
            counts[size] = counts.get(size, 0) + 1
            if counts[size] > 40:
                continue
            told = slow.shared_text(book, "ma", "mb", "en", 12)
            if told is None:
                self.assertTrue(found is None or len(found[0]) > 12)
            else:
                self.check(book, "ma", "mb", "en", (
                    told, read(book, "ma", "en", told), read(book, "mb", "en", told)))
                if len(told) < 8:
                    self.assertEqual(found[1:], tuple(
                        slow.readings(book, name, "en", told, 1)[0] for name in ("ma", "mb")))
        for size in (None, 0, 1, 2, 3, 4, 5, 6, 7):
            self.assertGreater(counts.get(size, 0), 3, counts)


def plain_shared(book, one, other, tongue, most):
    """What `shared` should return, if the text has at most so many signs, by all values.

    The texts of the book have no other letters than a and b, so no word needs any.
    """
    words = ["".join(word) for size in range(1, most + 1) for word in itertools.product("ab", repeat=size)]
    said = []
    for name in (one, other):
        arguments = slow.arguments_of(book, name)
        said.append({})
        for values in itertools.product(*(
                range(10 ** most) if kind[0] == "number" else words if kind[0] == "word" else kind[1]
                for _, kind in arguments)):
            told = reference.say(book, name, tongue, values)
            if len(told) <= most:
                said[-1].setdefault(told, []).append(values)
    texts = sorted((len(told), told) for told in said[0] if told in said[1])
    if not texts:
        return None
    told = texts[0][1]
    return (told, *(min(its[told], key=slow.order(slow.arguments_of(book, name)))
                    for its, name in zip(said, (one, other))))


class TestAreApart(BookCase):
    def check(self, book, names, tongue, expected):
        for given in (tuple(names), list(names)):
            before = repr((book, given))
            self.assertIs(are_apart(book, given, tongue), expected, names)
            self.assertIs(are_apart(as_lists(book), given, tongue), expected, names)
            self.assertEqual(repr((book, given)), before)

    def check_all(self, book, tongue, expected):
        """expected tells by index which messages are readable, and which pairs share no text."""
        names = [row[0] for row in book[1]]
        for many in range(len(names) + 1):
            for chosen in itertools.permutations(names, many):
                good = all(name in expected for name in chosen) and all(
                    pair in expected or pair[::-1] in expected
                    for pair in itertools.combinations(chosen, 2))
                self.check(book, chosen, tongue, good)

    def test_none_one_and_many(self):
        self.check(OVERVIEW, (), "en", True)
        self.check(OVERVIEW, ("found",), "en", True)
        self.check(OVERVIEW, ("names",), "en", False)
        self.check(OVERVIEW, ("found", "names"), "en", False)
        self.check(OVERVIEW, ("names", "found"), "en", False)
        self.check(((("en", "", ()),), ()), (), "en", True)

    def test_every_sequence(self):
        book = book_with(
            (W, (SHOW_W,)), (N, (SHOW_N,)), (W, (SHOW_W, MARK)), (C, by_option(text("a"), text("7"))),
            (N, (MARK,)))
        self.check_all(book, "en", {
            "ma", "mb", "mc", "md", ("ma", "mb"), ("ma", "mc"), ("mb", "mc"), ("mc", "md")})

    def test_tongues(self):
        self.check_all(HOME, "en", {"one", "all", ("one", "all")})
        self.check_all(HOME, "sl", {"one", "all", ("one", "all")})
        self.check_all(HOME, "de", {"one", "two", "all", ("one", "two"), ("one", "all"), ("two", "all")})
        self.check_all(HOME, "no", {"one", "all", ("one", "all")})
        self.check_all(RICH, "sl", {"own", "count", ("own", "count")})
        self.check_all(RICH, "ch", {"count"})

    def test_one_shared_text_is_enough(self):
        # The messages share one text alone, or a long one alone.
        book = book_with((C, by_option(text("a"), text("b"))), (C, by_option(text("c"), text("b"))),
                         (C, by_option(text("c"), text("d"))))
        self.check_all(book, "en", {"ma", "mb", "mc", ("ma", "mc")})
        book = book_with((W, text("a" * 20) + (SHOW_W,)), (W, (SHOW_W,) + text("b" * 20)),
                         (W, text("b") + (SHOW_W,)))
        self.check_all(book, "en", {"ma", "mb", "mc", ("ma", "mc")})

    def test_eight_messages(self):
        arguments = W + (("x", ("choice", ("p", "q", "r", "s"))), ("y", ("choice", ("p", "q", "r"))))

        def message(sign):
            return (arguments, (
                SHOW_W,
                ("case", "x", tuple((key, text("a" * 16 + end)) for key, end in zip(
                    ("p", "q", "r", "other"), ("b", "bc", "bcd", "bcde")))),
                ("case", "y", tuple((key, text("a" * 16 + end)) for key, end in zip(
                    ("p", "q", "other"), ("b", "bc", "bcd")))),
                ("text", "a" * 20), ("text", "a" * 10 + sign)))
        book = book_with(*(message(sign) for sign in "bcdefghi"))
        names = ["m" + letter for letter in "abcdefgh"]
        self.assertTrue(is_lawful(book))
        self.check(book, names, "en", True)
        self.check(book, names[::-1], "en", True)
        for sign in "bi":
            twice = book_with(*(message(sign) for sign in "bcdefgh" + sign))
            self.check(twice, names, "en", sign == "i")

    def test_what_is_no_sequence_of_names(self):
        wrong = (
            ("found", "found"), ("names", "found", "names"), ("gone",), ("found", "gone"), ("",),
            ("found", ""), (None,), ("found", 1), ("found", ("names",)), (("found",),), ("n", "a"),
            ("found", True), ("found", []), ([],), (("found", "names"),), ("found", None))
        book = book_with((W, (SHOW_W,)), (N, (SHOW_N,)))
        for tongue in ("en", "gone", None):
            for names in wrong + OTHER_THINGS:
                if names not in ((), []):
                    self.check_bad(1, are_apart, OVERVIEW, names, tongue)
            for names in ("found", "names", "", "foundnames"):
                self.check_bad(1, are_apart, OVERVIEW, names, tongue)
            self.check_bad(1, are_apart, OVERVIEW, ["found"] * 5000, tongue)
            self.check_bad(1, are_apart, book, "ma", tongue)
        # Names of one letter each: a string of them is no sequence.
        letters = (book[0], tuple((letter,) + row[1:] for letter, row in zip("pq", book[1])))
        self.check(letters, ("p", "q"), "en", True)
        self.check_bad(1, are_apart, letters, "pq", "en")
        self.check_bad(1, are_apart, letters, "p", "en")

    def test_errors_in_their_order(self):
        for names in (("found",), None, ("gone",)):
            for book in NO_BOOKS:
                self.check_bad(0, are_apart, book, names, "en")
                self.check_bad(0, are_apart, as_lists(book), names, None)
        for name in NO_NAMES:
            for names in ((), ("found",), ["names"]):
                self.check_raises(NoTongue, "name", name, are_apart, OVERVIEW, names, name)

    def test_arguments_by_name(self):
        self.assertIs(are_apart(tongue="en", names=["found"], book=OVERVIEW), True)

    def test_random_books(self):
        counts = {True: 0, False: 0}
        for book in lawful_books(random.Random(64), ("ma", "mb", "mc"), 150):
            names = ("ma", "mb", "mc")
            expected = {name for name in names if clash(book, name, "en") is None}
            expected |= {pair for pair in itertools.combinations(names, 2)
                         if shared(book, *pair, "en") is None}
            for many in range(4):
                for chosen in itertools.combinations(names, many):
                    good = expected.issuperset(chosen) and expected.issuperset(
                        itertools.combinations(chosen, 2))
                    self.check(book, chosen, "en", good)
                    if many > 1:
                        counts[good] += 1
        self.assertGreater(min(counts.values()), 20, counts)


class TestWhich(BookCase):
    def check(self, book, tongue, told, expected):
        for given in (book, as_lists(book)):
            before = repr(given)
            found = which(given, tongue, told)
            self.assertEqual(found, expected, told)
            self.assertTrue(is_plain(found))
            self.assertEqual(repr(given), before)

    def test_one_message_or_none(self):
        self.check(OVERVIEW, "en", "3 files of ann", (("found", (3, "ann")),))
        self.check(OVERVIEW, "en", "aaa", (("names", ("a", "aa")),))
        for told in ("", "a", "3 file of ann", "aaa ", "3 files of ", "\n"):
            self.check(OVERVIEW, "en", told, ())
        self.check(((("en", "", ()),), ()), "en", "", ())

    def test_several_messages(self):
        book = book_with((W, (SHOW_W,)), (TWO_WORDS, BOTH), (N, (SHOW_N,)), ((), text("ab")), (N, ()), (C, ()))
        self.check(book, "en", "ab", (("ma", ("ab",)), ("mb", ("a", "b")), ("md", ())))
        self.check(book, "en", "abc", (("ma", ("abc",)), ("mb", ("a", "bc"))))
        self.check(book, "en", "a", (("ma", ("a",)),))
        self.check(book, "en", "12", (("mc", (12,)),))
        self.check(book, "en", "", (("me", (0,)), ("mf", ("x",))))
        self.check(book, "en", "a1", ())
        turned = (book[0], book[1][::-1])
        self.check(turned, "en", "ab", (("md", ()), ("mb", ("a", "b")), ("ma", ("ab",))))
        self.check(turned, "en", "", (("mf", ("x",)), ("me", (0,))))

    def test_tongues(self):
        self.check(HOME, "en", "1 of a", (("one", (1, "a")),))
        self.check(HOME, "sl", "a o 1", (("one", (1, "a")),))
        self.check(HOME, "de", "a o 1", (("one", (1, "a")),))
        self.check(HOME, "no", "a o 1", ())
        self.check(HOME, "no", "a1", (("one", (1, "a")),))
        self.check(HOME, "sl", "a1", ())
        self.check(HOME, "sl", "1 of a?", (("all", (1, "a", "female")),))
        self.check(HOME, "de", "a-b", (("two", ("b", "a")),))

    def test_long_texts(self):
        self.check(HOME, "en", f"{BIG} of {LONG}", (("one", (BIG, LONG)),))
        self.check(HOME, "en", "a" * 240, (("two", ("a", "a" * 239)),))

    def test_errors_in_their_order(self):
        for rest in (("en", "x"), (None, None), ("gone", "")):
            for book in NO_BOOKS:
                self.check_bad(0, which, book, *rest)
                self.check_bad(0, which, as_lists(book), *rest)
        for name in NO_NAMES:
            for told in ("aaa", None, ("aaa",)):
                self.check_raises(NoTongue, "name", name, which, OVERVIEW, name, told)
        for thing in NO_TEXTS:
            self.check_bad(2, which, OVERVIEW, "en", thing)
            self.check_bad(2, which, ((("en", "", ()),), ()), "en", thing)

    def test_arguments_by_name(self):
        self.assertEqual(which(text="", tongue="en", book=OVERVIEW), ())

    def test_random_books(self):
        chance = random.Random(65)
        counts = {}
        for book in lawful_books(chance, ("mc", "ma", "mb"), 120):
            texts = {"", "a", "1", "ab"}
            for name, arguments, _ in book[1]:
                texts |= {say(book, name, "en", values) for values in some_values(chance, arguments, 2)}
            for told in sorted(texts):
                if len(told) < 6:
                    expected = tuple((name, slow.readings(book, name, "en", told, 1)[0])
                                     for name, _, _ in book[1] if slow.readings(book, name, "en", told, 1))
                    self.check(book, "en", told, expected)
                    counts[len(expected)] = counts.get(len(expected), 0) + 1
        for many in range(4):
            self.assertGreater(counts.get(many, 0), 3, counts)

    def test_says_what_readings_say(self):
        for told in ("aaa", "his cat", "cat|", "2|", "0 none", "3 files of his cat", ""):
            for tongue in ("en", "sl", "ch"):
                expected = tuple((name, readings(RICH, name, tongue, told, 1)[0])
                                 for name, _, _ in RICH[1] if readings(RICH, name, tongue, told, 1))
                self.check(RICH, tongue, told, expected)


if __name__ == "__main__":
    unittest.main()
