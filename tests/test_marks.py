"""[7], [8], [35], [36]: the fewest marks that make a message readable, and reasons against fewer."""

import itertools
import random
import unittest

from readhome.books import is_lawful
from readhome.clashes import is_readable
from readhome.errors import BadValue
from readhome.marking import gaps, marked, marks, reasons, reasons_hold
from readhome.saying import say
from tests import reference, slow, slowmarks
from tests.cases import BIG, LONG, NO_BOOKS, NO_NAMES, BookCase
from tests.randoms import lawful_forms, tight_book
from tests.samples import OTHER_THINGS, OVERVIEW, RICH, as_lists, as_tuples, book_of, is_plain, text
from tests.test_ways import some_values

NUMBER, WORD = ("number",), ("word",)
MARK = ("mark",)
N = (("n", NUMBER),)
C = (("c", ("choice", ("x", "y"))),)
TWO = (("a", WORD), ("b", WORD))
THREE = TWO + (("d", WORD),)
FOUR = THREE + (("e", WORD),)
SHOW_A, SHOW_B, SHOW_D, SHOW_E = (("show", name) for name in "abde")
SHOW_N = ("show", "n")
A = ("text", "a")
TONGUES = (("en", "", ()), ("sl", "en", ()), ("de", "sl", ()))
COUNTS = range(8)
NO_COUNTS = tuple(thing for thing in OTHER_THINGS if not isinstance(thing, int)) + (
    True, False, -1, 8, 9, 10 ** 30, -10 ** 30, "7", (0,), [1])


def by_option(first, second):
    """A case that says the one for the option x, the other for the option y."""
    return ("case", "c", (("x", first), ("other", second)))


def by_number(*patterns):
    keys = ["=0", "=1", "=2", "=3", "=4"][:len(patterns) - 1] + ["other"]
    return ("case", "n", tuple(zip(keys, patterns)))


def number_of(chosen):
    return None if chosen is None else len(chosen)


class MarksCase(BookCase):
    def check(self, book, name, tongue, expected):
        """marks, reasons and reasons_hold together, where marks should return what is expected."""
        for given in (book, as_lists(book)):
            before = repr(given)
            found = marks(given, name, tongue)
            self.assertEqual(found, expected)
            self.assertTrue(is_plain(found))
            pairs = reasons(given, name, tongue)
            self.assertEqual(repr(given), before)
            self.check_reason(given, name, tongue, pairs, expected)
        if expected is not None:
            self.assertTrue(is_readable(marked(book, name, tongue, expected), name, tongue))

    def check_reason(self, book, name, tongue, pairs, expected):
        self.assertTrue(is_plain(pairs))
        self.assertIs(type(pairs), tuple)
        self.assertLessEqual(len(pairs), 64)
        arguments = slow.arguments_of(as_tuples(book), name)
        for pair in pairs:
            self.assertEqual(len(pair), 2)
            for value in pair:
                self.assertEqual(len(value), len(arguments))
        for count in COUNTS:
            holds = expected is None or count <= len(expected)
            for given in (pairs, as_lists(pairs)):
                before = repr((book, given))
                self.assertIs(reasons_hold(book, name, tongue, count, given), holds)
                self.assertEqual(repr((book, given)), before)
            self.assertIs(slowmarks.reasons_hold(as_tuples(book), name, tongue, count, pairs), holds)

    def check_main(self, pattern, arguments, expected, classes=(), before=()):
        self.check(book_of(pattern, arguments, classes, before), "main", "en", expected)

    def check_barred(self, book, name, tongue, *further):
        for given in (book, as_lists(book)):
            self.assertTrue(is_lawful(book))
            self.check_bad(1, marks, given, name, tongue)
            self.check_bad(1, reasons, given, name, tongue)
            for count in (0, 1, 7, 8, None, True):
                for value in ((), None, ((0,), (0,))):
                    self.check_bad(1, reasons_hold, given, name, tongue, count, value)


class TestMarks(MarksCase):
    def test_no_mark_is_needed(self):
        self.check(OVERVIEW, "found", "en", ())
        self.check_main((), (), ())
        self.check_main((A, A, A), (), ())
        self.check_main((SHOW_A, MARK, SHOW_B), TWO, ())
        self.check_main((SHOW_N, SHOW_A), N + TWO[:1], ())
        self.check_main((by_option((A, A), (MARK, A)), SHOW_N), C + N, ())

    def test_one_mark(self):
        self.check(OVERVIEW, "names", "en", ((1,),))
        self.check_main((A, SHOW_A, SHOW_B, A), TWO, ((2,),))
        self.check_main((SHOW_A, A, SHOW_B, A), TWO, ((1,),))
        self.check_main((MARK, SHOW_A, ("text", "."), SHOW_B), TWO, ())
        self.check_main((SHOW_N, by_option((("text", "0"),), ())), N + C, ((1,),))
        self.check_main((SHOW_N, by_option((("text", "0"), A), (A,))), N + C, ((1,),))
        self.check_main((by_option((A, ("text", "b")), (("text", "ab"),)),), C, ((0, 0, 1),))
        self.check_main((by_option((("text", "ab"),), (A, ("text", "b"))),), C, ((0, 1, 1),))

    def test_two_and_more_marks(self):
        self.check_main((SHOW_A, SHOW_B, SHOW_D), THREE, ((1,), (2,)))
        self.check_main((SHOW_A, A, SHOW_B, SHOW_D), THREE, ((1,), (3,)))
        self.check_main((SHOW_A, SHOW_B, A, SHOW_D), THREE, ((1,), (2,)))
        self.check_main((SHOW_A, SHOW_B, SHOW_D, SHOW_E), FOUR, ((1,), (2,), (3,)))
        self.check_main((SHOW_A, SHOW_B, SHOW_D, SHOW_E)[::-1], FOUR, ((1,), (2,), (3,)))
        pattern = (by_option((SHOW_A, SHOW_B), (SHOW_A, A, SHOW_B)), MARK)
        # With one mark on each way the mark and the text a stand in for one another.
        self.check_main(pattern, TWO + C, ((0, 0, 1), (0, 1, 1), (0, 1, 2)))
        self.check_main((by_option((SHOW_A, SHOW_B), (SHOW_B, SHOW_A)),), TWO + C, None)
        pattern = (by_option((SHOW_A, SHOW_B), (SHOW_A, SHOW_B, A)), MARK)
        self.check_main(pattern, TWO + C, ((0, 0, 1), (0, 1, 1), (0, 1, 2)))
        pattern = (by_option((SHOW_A, SHOW_B, SHOW_D, MARK), (MARK, SHOW_A, SHOW_B, SHOW_D)),)
        self.check_main(pattern, THREE + C, ((0, 0, 1), (0, 0, 2), (0, 1, 2), (0, 1, 3)))

    def test_no_set_of_marks(self):
        self.check_main((), N, None)
        self.check_main((), TWO, None)
        self.check_main((A, A), N, None)
        self.check_main((A, A, A, A), C, None)
        self.check_main((SHOW_A, SHOW_B), TWO + N, None)
        self.check_main((by_option((A,), (A,)),), C, None)
        self.check_main((SHOW_A, by_option((A,), (A,)), SHOW_B), TWO + C, None)
        self.check_main((by_option((SHOW_A,), (A,)),), C + TWO[:1], None)

    def test_ties(self):
        # Of several gaps that do, the first.
        self.check_main((SHOW_A, A, SHOW_B), TWO, ((1,),))
        self.check_main((SHOW_A, A, A, SHOW_B), TWO, ((1,),))
        self.check_main((by_option((A, A), (A, A)),), C, ((0, 0, 1),))
        self.check_main((by_option((A, A), (A, A)), A), C, ((0, 0, 1),))
        pattern = (by_option((SHOW_A, A, SHOW_B), (SHOW_A, A, A, SHOW_B)), MARK)
        self.check_main(pattern, TWO + C, ((0, 0, 1), (0, 0, 2), (0, 1, 1)))
        self.check_main((SHOW_A, by_option((), (A,)), SHOW_B), TWO + C, ((1,), (2,)))
        # (0, 0, 1) stands before (1,), though it is the longer tuple.
        self.check_main((by_option((A, A), (A,)), by_option((A,), (A, A))), C, ((0, 0, 1),))
        self.check_main((by_option((A, A), (A,)), A, by_option((), ())), C, ())

    def test_one_mark_behind_two_others(self):
        # The first two gaps do together, but the last one does alone.
        three = (("f", ("choice", ("p", "q", "r"))),)
        case = ("case", "f", (("p", (A, A)), ("q", (A, ("text", "b"))), ("other", ())))
        self.check_main((case, SHOW_A), three + TWO[:1], ((1,),))
        self.check_main((SHOW_A, case), TWO[:1] + three, ((1,),))
        book = book_of((case, SHOW_A), three + TWO[:1])
        self.assertTrue(is_readable(marked(book, "main", "en", ((0, 0, 1), (0, 1, 1))), "main", "en"))
        for gap in ((0, 0, 1), (0, 1, 1)):
            self.assertFalse(is_readable(marked(book, "main", "en", (gap,)), "main", "en"))

    def test_mark_that_makes_two_texts_equal_again(self):
        # x says aa, y says a|a: with a mark between its pieces x says the same.
        pattern = (by_option((A, A), (A, MARK, A)),)
        book = book_of(pattern, C)
        self.check(book, "main", "en", ())
        self.assertFalse(is_readable(marked(book, "main", "en", ((0, 0, 1),)), "main", "en"))
        self.assertTrue(is_readable(marked(book, "main", "en", ((0, 0, 1), (0, 1, 1))), "main", "en"))
        # One mark does, with both the texts are the same again.
        pattern = (by_option((A, A), (A, A)),)
        book = book_of(pattern, C)
        self.check(book, "main", "en", ((0, 0, 1),))
        self.assertFalse(is_readable(marked(book, "main", "en", gaps(book, "main", "en")), "main", "en"))
        # Each of the two alone makes it worse, both together do.
        b = ("text", "b")
        pattern = (("case", "f", (("p", (A, b)), ("q", (A, MARK, b)), ("r", (A, b)), ("other", (MARK, A, b)))),)
        four = (("f", ("choice", ("p", "q", "r", "s"))),)
        self.check_main(pattern, four, slowmarks.marks(book_of(pattern, four), "main", "en"))

    def test_numbers(self):
        two = (("a", NUMBER), ("b", NUMBER))
        self.check_main((SHOW_A, SHOW_B), two, ((1,),))
        self.check_main((SHOW_A, ("text", "0"), SHOW_B), two, ((1,),))
        self.check_main((SHOW_A, SHOW_B, SHOW_D), two + (("d", NUMBER),), ((1,), (2,)))
        self.check_main((SHOW_A, SHOW_B, SHOW_D), two + THREE[2:], ((1,),))
        odd = ("odd", 2, (1,), 0, None)
        case = ("case", "n", (("odd", (SHOW_N, ("text", "0"))), ("other", (SHOW_N,))))
        self.check_main((case,), N, ((0, 0, 1),), (odd,))
        case = ("case", "n", (("odd", (SHOW_N, ("text", "1"))), ("other", (SHOW_N,))))
        self.check_main((case,), N, (), (odd,))
        self.check_main((case, case[:2] + ((("other", (A, A)),),)), N, (), (odd,))

    def test_terms(self):
        # A term has no gaps, so nothing helps what it says alone; beside it something does.
        leaf = ("leaf", TWO, (("en", (SHOW_A, SHOW_B)),))
        term = ("term", "leaf", (("a", ("argument", "a")), ("b", ("argument", "b"))))
        self.check_main((term,), TWO, None, (), (leaf,))
        self.check_main((A, term, A), TWO, None, (), (leaf,))
        leaf = ("leaf", TWO[:1], (("en", (SHOW_A, A)),))
        term = ("term", "leaf", (("a", ("argument", "a")),))
        self.check_main((term, SHOW_B), TWO, ((1,),), (), (leaf,))
        twice = (term, ("term", "leaf", (("a", ("argument", "b")),)))
        self.check_main(twice, TWO, ((1,),), (), (leaf,))

    def test_forms_of_tongues_above(self):
        for tongue in ("en", "sl"):
            self.check(RICH, "all", tongue, None)
        self.check(RICH, "all", "ch", None)
        book = (TONGUES, (("main", TWO, (("en", (SHOW_A, SHOW_B)), ("de", (SHOW_A, MARK, SHOW_B)))),))
        self.check(book, "main", "en", ((1,),))
        self.check(book, "main", "sl", ((1,),))
        self.check(book, "main", "de", ())
        found = marked(book, "main", "sl", ((1,),))
        self.assertTrue(is_readable(found, "main", "en"))

    def test_arguments_by_name(self):
        self.assertEqual(marks(tongue="en", name="names", book=OVERVIEW), ((1,),))
        pairs = reasons(tongue="en", name="names", book=OVERVIEW)
        self.assertIs(reasons_hold(
            value=pairs, count=1, tongue="en", name="names", book=OVERVIEW), True)

    def test_random_books(self):
        chance = random.Random(73)
        counts = {}
        while sum(counts.values()) < 260:
            book = tight_book(chance)
            every = gaps(book, "main", "en")
            if not slowmarks.is_markable(book, "main", "en"):
                self.check_barred(book, "main", "en")
                continue
            size = (len(every), number_of(marks(book, "main", "en")))
            if counts.get(size, 0) > 15:
                continue
            counts[size] = counts.get(size, 0) + 1
            self.check(book, "main", "en", slowmarks.marks(book, "main", "en"))
        for size in (0, 1, 2, 3, None):
            self.assertGreater(sum(many for key, many in counts.items() if key[1] == size), 1, counts)
        self.assertEqual({key[0] for key in counts}, set(range(7)))

    def test_random_texts_and_marks(self):
        chance = random.Random(76)
        counts = {}
        worse = 0
        four = (("f", ("choice", ("p", "q", "r", "s"))),)
        while sum(counts.values()) < 150:
            case = ("case", "f", tuple((key, tuple(
                chance.choices((A, ("text", "aa"), MARK), k=chance.randint(0, 4))))
                for key in ("p", "q", "r", "other")))
            book = book_of((case,), four)
            if len(gaps(book, "main", "en")) > 6:
                continue
            expected = slowmarks.marks(book, "main", "en")
            size = number_of(expected)
            if counts.get(size, 0) > 50:
                continue
            counts[size] = counts.get(size, 0) + 1
            self.check(book, "main", "en", expected)
            # More marks than those that do may make two texts equal again.
            worse += expected is not None and any(
                not is_readable(marked(book, "main", "en", chosen), "main", "en")
                for chosen in slowmarks.sets_below(book, "main", "en", 7) if set(expected) < set(chosen))
        self.assertGreater(worse, 30)
        for size in (0, 1, 2, None):
            self.assertGreater(counts.get(size, 0), 1, counts)

    def test_random_forms(self):
        counts = {}
        for book, name, tongue, arguments in lawful_forms(random.Random(74), 130):
            if [kind for _, kind in arguments].count(NUMBER) > 1:
                continue
            if slowmarks.is_markable(book, name, tongue):
                self.check(book, name, tongue, slowmarks.marks(book, name, tongue))
                counts[True] = counts.get(True, 0) + 1
            else:
                self.check_barred(book, name, tongue)
                counts[False] = counts.get(False, 0) + 1
        self.assertGreater(min(counts[True], counts[False]), 20)


class TestBounds(MarksCase):
    def check_bound(self, within, beyond, name="main", tongue="en"):
        """Each a book: the one as far as to a bound, the other beyond it by one."""
        self.assertTrue(is_lawful(within))
        self.check(within, name, tongue, slowmarks.marks(within, name, tongue))
        self.assertFalse(slowmarks.is_markable(beyond, name, tongue))
        self.check_barred(beyond, name, tongue)

    def test_gaps(self):
        self.check_bound(
            book_of((A, A, by_option((A, A, A), (A, A)), A), C),
            book_of((A, A, by_option((A, A, A), (A, A, A)), A), C))
        self.check_bound(
            book_of((SHOW_A, SHOW_B, by_option((A, A, A), (A, MARK)), SHOW_D), C + THREE),
            book_of((SHOW_A, SHOW_B, by_option((A, A, A), (A, MARK, A)), SHOW_D), C + THREE))
        self.check_bound(
            book_of((by_number((A, MARK), (A, A), (MARK, A), (A, A), (MARK, MARK)), SHOW_N), N),
            book_of((by_number((A, MARK), (A, A), (MARK, A), (A, A), (MARK, MARK)), SHOW_N, A), N))

    def test_pieces_of_a_pattern(self):
        self.check_bound(book_of((SHOW_A, A, SHOW_B, A), TWO), book_of((SHOW_A, A, SHOW_B, A, A), TWO))
        self.check_bound(
            book_of((by_option((SHOW_A, A, SHOW_B, A), ()), A), TWO + C),
            book_of((by_option((SHOW_A, A, SHOW_B, A, A), ()), A), TWO + C))
        self.check_bound(
            book_of((by_option((), (by_option((), (A, A, A, A)),)),), C),
            book_of((by_option((), (by_option((), (A, A, A, A, A)),)),), C))
        # Patterns that no value meets count, too.
        self.check_bound(
            book_of((by_option((by_option((), (A,) * 4),), ()),), C),
            book_of((by_option((by_option((), (A,) * 5),), ()),), C))

    def test_pieces_of_ways(self):
        # A term counts as well as what it says; texts count one by one.
        leaf = ("leaf", (), (("en", (A,) * 6),))
        term = ("term", "leaf", ())
        self.check_bound(
            book_of((term, A, A, A), C, (), (leaf,)),
            book_of((term, A, A, by_option((A,), (A, A))), C, (), (leaf,)))
        self.check_bound(
            book_of((term, SHOW_A, MARK, SHOW_B), TWO, (), (leaf,)),
            book_of((term, by_option((SHOW_A,), (SHOW_A, A)), MARK, SHOW_B), TWO + C, (), (leaf,)))
        within = ("leaf", C, (("en", (by_option((A,) * 4, ()), A, A, A, A, A)),))
        term = ("term", "leaf", (("c", ("argument", "c")),))
        beyond = ("leaf", C, (("en", (by_option((A,) * 5, ()), A, A, A, A, A)),))
        self.check_bound(book_of((term,), C, (), (within,)), book_of((term,), C, (), (beyond,)))
        # Cases are no pieces of ways; one long way of several is enough.
        eight = ("leaf", (), (("en", (A,) * 6 + (MARK,)),))
        term = ("term", "leaf", ())
        self.check_bound(
            book_of((term, by_option((A, A), ())), C, (), (eight,)),
            book_of((term, by_option((A, A, A), ())), C, (), (eight,)))

    def test_pieces_of_a_message(self):
        for rest in (1, 2):
            forms = (("en", (by_number(*(((A,),) * 5)), SHOW_N)),
                     ("sl", (by_number(*(((MARK,) * 4,) * 5)), SHOW_N)),
                     ("de", (A,) * rest))
            book = (TONGUES, (("main", N, forms),))
            pieces = sum(len(list(reference.pieces_in(pattern))) for _, pattern in forms)
            self.assertEqual(pieces, 29 + rest)
            if rest == 1:
                self.check(book, "main", "en", slowmarks.marks(book, "main", "en"))
                self.check(book, "main", "de", None)
            else:
                self.check_barred(book, "main", "en")
                self.check_barred(book, "main", "de")

    def test_messages_that_others_name(self):
        leaf = ("leaf", N, (("en", (SHOW_N,)),))
        self.check(book_of((A,), (), (), (leaf,)), "leaf", "en", ())
        term = ("term", "leaf", (("n", ("argument", "n")),))
        for pattern in ((term,), (by_number((A,), (term,)),), (by_number((by_number((), (term,)),), (A,)),)):
            book = book_of(pattern, N, (), (leaf,))
            self.check_barred(book, "leaf", "en")
            self.check(book, "main", "en", slowmarks.marks(book, "main", "en"))
        # In whatever tongue, and for whatever tongue the marks are.
        for home in ("en", "sl", "de"):
            forms = tuple((tongue, (term,) if tongue == home else (SHOW_N,)) for tongue in ("en", "sl", "de"))
            book = (TONGUES, (leaf, ("main", N, forms)))
            for tongue in ("en", "sl", "de"):
                self.check_barred(book, "leaf", tongue)
                self.check(book, "main", tongue, ())
        self.check_barred(RICH, "own", "ch")
        self.check_barred(RICH, "count", "en")

    def test_only_the_form_of_the_tongue_counts(self):
        forms = (("en", (A,) * 5), ("sl", (A,) * 4))
        book = (TONGUES, (("main", (), forms),))
        self.check_barred(book, "main", "en")
        self.check(book, "main", "sl", ())
        self.check(book, "main", "de", ())
        turned = (TONGUES, (("main", (), (("en", (A,) * 4), ("sl", (A,) * 5))),))
        self.check(turned, "main", "en", ())
        self.check_barred(turned, "main", "sl")
        self.check_barred(turned, "main", "de")
        # The patterns of a term may be longer.
        leaf = ("leaf", (), (("en", (A,) * 8),))
        self.check_main((("term", "leaf", ()), A), (), (), (), (leaf,))

    def test_errors_in_their_order(self):
        self.check_first_errors(marks)
        self.check_first_errors(reasons)
        self.check_first_errors(reasons_hold, 1, ())
        self.check_first_errors(reasons_hold, -1, None)

    def test_with_six_gaps_and_24_ways(self):
        digits = "0123456789"
        leaf = ("leaf", (("x", ("choice", ("p", "q", "r", "s"))), ("y", ("choice", ("p", "q", "r")))), (("en", (
            ("case", "x", tuple((key, text("1" * 16 + sign)) for key, sign in zip(("p", "q", "r", "other"), digits))),
            ("case", "y", tuple((key, text("1" * 16 + sign)) for key, sign in zip(("p", "q", "other"), digits))))),))
        term = ("term", "leaf", (("x", ("argument", "x")), ("y", ("argument", "y"))))
        one, other = ("text", "1" * 20), ("text", "1" * 19)
        for arguments, shown in (((("n", NUMBER),), SHOW_N), ((("n", WORD),), SHOW_N)):
            pattern = (shown, term, by_option((one, A, other), (one, other)), ("text", "1"))
            book = book_of(pattern, arguments + leaf[1] + C, (), (leaf,))
            self.assertEqual(len(gaps(book, "main", "en")), 6)
            self.check(book, "main", "en", slowmarks.marks(book, "main", "en"))
            pairs = tuple(itertools.islice(itertools.cycle(reasons(book, "main", "en") + (
                ((BIG if shown is SHOW_N and arguments == N else LONG, "p", "p", "x"),) * 2,)), 64))
            for count in COUNTS:
                self.assertIs(reasons_hold(book, "main", "en", count, pairs), slowmarks.reasons_hold(
                    book, "main", "en", count, pairs))


class TestReasons(MarksCase):
    def check_hold(self, book, name, tongue, value, least):
        """value is a reason for the counts below least alone."""
        for count in COUNTS:
            for given, thing in ((book, value), (as_lists(book), as_lists(value))):
                before = repr((given, thing))
                self.assertIs(reasons_hold(given, name, tongue, count, thing), count < least, (count, value))
                self.assertEqual(repr((given, thing)), before)

    def test_two_words(self):
        good = (("a", "aa"), ("aa", "a"))
        for value in ((good,), (good[::-1],), (good, good), ((("xy", "z"), ("x", "yz")),),
                      ((("a", "a"), ("a", "b")), good), (good, (good[0], good[0]))):
            self.check_hold(OVERVIEW, "names", "en", value, 2)
        for value in ((), ((good[0], good[0]),), ((("a", "a"), ("a", "b")),), ((good[0], good[0]), (good[1], good[1])),
                      ((("a", "ab"), ("ab", "a")),)):
            self.check_hold(OVERVIEW, "names", "en", value, 1)

    def test_each_pair_is_needed(self):
        book = book_of((SHOW_A, SHOW_B, SHOW_D), THREE)
        left = (("a", "aa", "b"), ("aa", "a", "b"))
        right = (("b", "a", "aa"), ("b", "aa", "a"))
        far = (("a", "b", "aa"), ("ab", "a", "a"))
        self.check_hold(book, "main", "en", (left, right), 3)
        self.check_hold(book, "main", "en", (right, left, left), 3)
        # One pair tells against no mark, but not against each single one.
        for value in ((left,), (right,), (left, left), (left, far), ((left[0], left[0]), right)):
            self.check_hold(book, "main", "en", value, 2)
        self.check_hold(book, "main", "en", ((left[0], right[0]), (left[1], right[1])), 1)

    def test_no_marks_help(self):
        book = book_of((A, A, A), N)
        self.check_hold(book, "main", "en", (((0,), (1,)),), 8)
        self.check_hold(book, "main", "en", (((BIG,), (5,)),), 8)
        self.check_hold(book, "main", "en", (((5,), (5,)),), 1)
        book = book_of((by_option((A, A), (A, A)), SHOW_N), C)
        book = book_of((by_option((A, A), (A, A)), SHOW_N), C + N)
        self.check_hold(book, "main", "en", ((("x", 0), ("y", 0)),), 2)
        self.check_hold(book, "main", "en", ((("x", 0), ("y", 1)),), 1)

    def test_what_is_no_sequence_of_pairs_of_values(self):
        good = (("a", "aa"), ("aa", "a"))
        wrong = (
            good, (good, ()), (good, good[0]), (good, (good[0],)), (good, good + good), (good, None),
            ((good[0], ("a", "")),), (good, (("a", "a"), ("a",))), (good, (("a", "a"), ("a", "a", "a"))),
            (good, (("a", "a"), "aa")), (good, (("a", "a"), ("A", "a"))), (good, (("a", "a"), ("a", 1))),
            (good, (("a", "a"), (1, 0))), (good, (("a", "a"), None)), (good, ("ab", "cd")), ("abcd",),
            ((good,),), (good, [[], []]), (good, ((), ())), ([good[0], [True, "a"]],))
        for value in wrong + OTHER_THINGS:
            if value not in ((), []):
                self.check_hold(OVERVIEW, "names", "en", value, 0)
                self.check_hold(OVERVIEW, "found", "en", value, 0)
        # Numbers and options are judged, too.
        book = book_of((by_option((A, A), (A, A)),), C + N)
        for value in (((("x", True), ("y", True)),), ((("x", -1), ("y", 1)),), ((("x", "1"), ("y", 1)),),
                      ((("z", 1), ("y", 1)),), ((("other", 1), ("y", 1)),), ((("x", None), ("y", 1)),),
                      ((("x", 0), ("y", 0)), (("x", 0), ("y", 0), ("x", 1)))):
            self.check_hold(book, "main", "en", value, 0)
        self.check_hold(book, "main", "en", ((("x", 0), ("y", 0)),), 2)
        deep = ()
        for _ in range(29):
            deep = (deep,)
        self.check_hold(book, "main", "en", deep, 0)
        self.check_hold(book, "main", "en", ((), ()), 0)

    def test_messages_without_arguments(self):
        book = book_of((A, A))
        self.check(book, "main", "en", ())
        self.check_hold(book, "main", "en", (), 1)
        self.check_hold(book, "main", "en", (((), ()),), 1)
        self.check_hold(book, "main", "en", ((), ()), 0)

    def test_readable_messages(self):
        self.check_hold(OVERVIEW, "found", "en", (), 1)
        self.check_hold(OVERVIEW, "found", "en", (((1, "a"), (1, "b")),), 1)
        self.assertEqual(reasons(OVERVIEW, "found", "en")[:0], ())

    def test_long_values(self):
        value = (((LONG, LONG[:-1] + "b"), (LONG + LONG[0], LONG[1:-1] + "b")),)
        self.check_hold(OVERVIEW, "names", "en", value, 2)
        book = book_of((("show", "a"), ("show", "b")), (("a", NUMBER), ("b", NUMBER)))
        self.check_hold(book, "main", "en", (((BIG, 123), (int(f"{BIG}1"), 23)),), 2)

    def test_counts(self):
        for value in (reasons(OVERVIEW, "names", "en"), (), None, ((1,),)):
            for count in NO_COUNTS:
                self.check_bad(3, reasons_hold, OVERVIEW, "names", "en", count, value)
                self.check_bad(3, reasons_hold, as_lists(OVERVIEW), "found", "en", count, value)

    def test_sixty_four_pairs(self):
        book = book_of((SHOW_A, SHOW_B, SHOW_D, SHOW_E), FOUR)
        pairs = reasons(book, "main", "en")
        same = (("a", "a", "a", "a"),) * 2
        value = (same,) * (64 - len(pairs)) + pairs
        self.check_hold(book, "main", "en", value, 4)
        self.check_hold(book, "main", "en", (same,) * 64, 1)

    def test_changed_reasons(self):
        chance = random.Random(75)
        counts = {True: 0, False: 0}
        many = 0
        while many < 60:
            book = tight_book(chance)
            if not slowmarks.is_markable(book, "main", "en") or marks(book, "main", "en") == ():
                continue
            many += 1
            arguments = slow.arguments_of(book, "main")
            pairs = list(reasons(book, "main", "en"))
            others = [tuple(some_values(chance, arguments, 2)) for _ in range(3)]
            for value in (pairs[1:], pairs[:-1], pairs + pairs, pairs[::-1], others, others + pairs[:1],
                          [(first, first) for first, _ in pairs], [pair[::-1] for pair in pairs]):
                for count in COUNTS:
                    expected = slowmarks.reasons_hold(book, "main", "en", count, value)
                    counts[expected] += 1
                    self.assertIs(reasons_hold(book, "main", "en", count, value), expected)
                    best = marks(book, "main", "en")
                    if best is not None and count > len(best):
                        self.assertIs(expected, False)
        self.assertGreater(min(counts.values()), 99, counts)

    def test_pairs_say_the_same(self):
        for pattern, arguments in (((SHOW_A, SHOW_B), TWO), ((SHOW_A, SHOW_B, SHOW_D), THREE)):
            book = book_of(pattern, arguments)
            for first, second in reasons(book, "main", "en"):
                self.assertNotEqual(first, second)
                self.assertTrue(any(
                    say(marked(book, "main", "en", chosen), "main", "en", first)
                    == say(marked(book, "main", "en", chosen), "main", "en", second)
                    for chosen in slowmarks.sets_below(book, "main", "en", 7)))


if __name__ == "__main__":
    unittest.main()
