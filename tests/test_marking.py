"""[33], [34]: gaps and marks in them."""

import itertools
import random
import unittest

from readhome.books import fault, is_book, is_lawful
from readhome.errors import BadValue
from readhome.marking import gaps, marked
from readhome.saying import say
from tests import reference, slowmarks
from tests.cases import BookCase
from tests.randoms import lawful_forms, tight_book
from tests.samples import OTHER_THINGS, OVERVIEW, RICH, SEX, as_lists, book_of, is_plain, text

NUMBER, WORD = ("number",), ("word",)
MARK = ("mark",)
N = (("n", NUMBER),)
A = ("text", "a")
SHOW = ("show", "n")
TONGUES = (("en", "", ()), ("sl", "en", ()), ("de", "sl", ()))


def case(*patterns):
    """A case on n with these patterns in its branches."""
    keys = ["=0", "=1", "=2", "=3", "=4"][:len(patterns) - 1] + ["other"]
    return ("case", "n", tuple(zip(keys, patterns)))


# Cases within cases: pieces 0 and 2 are cases, the branch 1 of the first one has one, too.
DEEP = (
    case((A, A), (A, case((), (A, A, A), (A,)), A)),
    A,
    case((SHOW,), (), (A, MARK)),
)
DEEP_GAPS = ((0, 0, 1), (0, 1, 1), (0, 1, 1, 1, 1), (0, 1, 1, 1, 2), (0, 1, 2), (1,), (2,), (2, 2, 1))


class TestGaps(BookCase):
    def check(self, book, name, tongue, expected):
        for given in (book, as_lists(book)):
            before = repr(given)
            found = gaps(given, name, tongue)
            self.assertEqual(found, expected)
            self.assertTrue(is_plain(found))
            self.assertEqual(repr(given), before)

    def check_main(self, pattern, expected, arguments=N, before=()):
        self.check(book_of(pattern, arguments, (), before), "main", "en", expected)

    def test_plain_patterns(self):
        self.check_main((), ())
        self.check_main((A,), ())
        self.check_main((A, A), ((1,),))
        self.check_main((A, SHOW, MARK), ((1,), (2,)))
        self.check_main((MARK,) * 8, tuple((at,) for at in range(1, 8)))
        self.check(OVERVIEW, "found", "en", ((1,), (2,)))
        self.check(OVERVIEW, "names", "en", ((1,),))

    def test_branches(self):
        self.check_main((case((), ()),), ())
        self.check_main((case((A,), (A,)),), ())
        self.check_main((case((A, A), (A,)),), ((0, 0, 1),))
        self.check_main((case((A,), (A, A)),), ((0, 1, 1),))
        self.check_main((A, case((), (A, A, A))), ((1,), (1, 1, 1), (1, 1, 2)))
        self.check_main(DEEP, DEEP_GAPS)
        self.check_main(DEEP[::-1], (
            (0, 2, 1), (1,), (2,), (2, 0, 1), (2, 1, 1), (2, 1, 1, 1, 1), (2, 1, 1, 1, 2), (2, 1, 2)))
        four = (A, A)
        for _ in range(4):
            four = (case((), four),)
        self.check_main(four, ((0, 1, 0, 1, 0, 1, 0, 1, 1),))

    def test_terms_have_none(self):
        leaf = ("leaf", N, (("en", (A, A, case((A, A), ()), MARK)),))
        term = ("term", "leaf", (("n", ("argument", "n")),))
        self.check_main((term,), (), N, (leaf,))
        self.check_main((A, term, case((A, term), ())), ((1,), (2,), (2, 0, 1)), N, (leaf,))
        self.check(RICH, "all", "en", ((1,), (2,)))

    def test_forms_of_tongues_above(self):
        self.check(RICH, "all", "sl", ((1,), (2,)))
        self.check(RICH, "all", "ch", ((1,),))
        self.check(RICH, "own", "sl", ((1,),))
        self.check(RICH, "own", "ch", ((1,), (2,)))
        self.check(RICH, "count", "ch", ((1,),))

    def test_errors_in_their_order(self):
        self.check_first_errors(gaps)

    def test_arguments_by_name(self):
        self.assertEqual(gaps(tongue="en", name="names", book=OVERVIEW), ((1,),))

    def test_random_books(self):
        seen = set()
        for book, name, tongue, _ in lawful_forms(random.Random(71), 300):
            expected = slowmarks.gaps(book, name, tongue)
            self.check(book, name, tongue, expected)
            seen.update(map(len, expected))
        self.assertGreaterEqual(seen, {1, 3, 5, 7})


class TestMarked(BookCase):
    def check(self, book, name, tongue, chosen, expected):
        for given, its in ((book, chosen), (as_lists(book), as_lists(chosen)),
                           (book, list(chosen)), (as_lists(book), tuple(map(list, chosen)))):
            before = repr((given, its))
            found = marked(given, name, tongue, its)
            self.assertEqual(found, expected)
            self.assertTrue(is_plain(found))
            self.assertEqual(repr((given, its)), before)

    def check_main(self, pattern, chosen, expected, arguments=N):
        self.check(book_of(pattern, arguments), "main", "en", chosen, book_of(expected, arguments))

    def test_plain_patterns(self):
        self.check_main((A,), (), (A,))
        self.check_main((A, SHOW), ((1,),), (A, MARK, SHOW))
        self.check_main((A, SHOW, MARK), ((1,),), (A, MARK, SHOW, MARK))
        self.check_main((A, SHOW, MARK), ((2,),), (A, SHOW, MARK, MARK))
        for chosen in (((1,), (2,)), ((2,), (1,))):
            self.check_main((A, SHOW, MARK), chosen, (A, MARK, SHOW, MARK, MARK))

    def test_branches(self):
        inner = case((), (A, A, A), (A,))
        self.check_main(DEEP, (), DEEP)
        self.check_main(DEEP, ((0, 0, 1),), (case((A, MARK, A), (A, inner, A)),) + DEEP[1:])
        self.check_main(DEEP, ((0, 1, 1),), (case((A, A), (A, MARK, inner, A)),) + DEEP[1:])
        self.check_main(DEEP, ((0, 1, 2),), (case((A, A), (A, inner, MARK, A)),) + DEEP[1:])
        self.check_main(DEEP, ((0, 1, 1, 1, 2),), (
            case((A, A), (A, case((), (A, A, MARK, A), (A,)), A)),) + DEEP[1:])
        self.check_main(DEEP, ((2,), (2, 2, 1), (0, 0, 1)), (
            case((A, MARK, A), (A, inner, A)), A, MARK, case((SHOW,), (), (A, MARK, MARK))))
        every = (
            case((A, MARK, A), (A, MARK, case((), (A, MARK, A, MARK, A), (A,)), MARK, A)), MARK,
            A, MARK, case((SHOW,), (), (A, MARK, MARK)))
        for turned in (DEEP_GAPS, DEEP_GAPS[::-1], DEEP_GAPS[3:] + DEEP_GAPS[:3]):
            self.check_main(DEEP, turned, every)

    def test_this_form_alone_is_changed(self):
        for name, tongue, home in (
                ("own", "en", "en"), ("own", "sl", "en"), ("own", "ch", "ch"), ("count", "en", "en"),
                ("count", "sl", "sl"), ("count", "ch", "sl"), ("all", "sl", "en"), ("all", "ch", "ch")):
            for chosen in ((), ((1,),), gaps(RICH, name, tongue)):
                found = marked(RICH, name, tongue, chosen)
                self.check(RICH, name, tongue, chosen, slowmarks.marked(RICH, name, tongue, chosen))
                self.assertEqual(found[0], RICH[0])
                for old, new in zip(RICH[1], found[1], strict=True):
                    self.assertEqual(new[:2], old[:2])
                    for (where, pattern), (there, its) in zip(old[2], new[2], strict=True):
                        self.assertEqual(where, there)
                        self.assertEqual(its == pattern, (old[0], where) != (name, home) or not chosen)

    def test_what_is_said_then(self):
        book = marked(RICH, "count", "ch", ((1,),))
        self.assertEqual(say(book, "count", "sl", (1,)), "1| a")
        self.assertEqual(say(book, "count", "ch", (1,)), "1| a")
        self.assertEqual(say(book, "count", "en", (1,)), "1 file")
        book = marked(OVERVIEW, "found", "en", ((2,), (1,)))
        self.assertEqual(say(book, "found", "en", (3, "ann")), "3| files of |ann")

    def test_what_is_no_sequence_of_gaps(self):
        book = book_of(DEEP, N)
        good = ((1,), (2,))
        wrong = [
            ((3,),), ((0,),), ((-1,),), ((1,), (3,)), ((),), ((1,), ()), (1,), (1, 2), ((1, 2),), ((True,),),
            ((1,), (True,)), ((False, False, True),), ((0, 0, True),), ((0, False, 1),), ((1,), (1,)),
            ((1,), (2,), (1,)), ([1], (1,)), ((0, 0, 1), [0, 0, 1]), (("1",),), ("1",), ((None,),),
            (None,), ((0, 0, 2),), ((0, 0),), ((0, 0, 0),), ((0, 2, 1),), ((1, 0, 1),), ((2, 0, 1),),
            ((0, 1, 1, 1),), ((0, 1, 1, 1, 3),), ((0, 1, 1, 0, 1),), ((0, 1, 1, 1, 1, 1),), (((1,),),),
            ((10 ** 30,),), ((1,), ((2,),)), good * 2500, ((1,) * 5000,), DEEP_GAPS + ((1,),),
            ((0, 1, 1, 1, 1, 0, 0, 0, 1),)]
        for chosen in [*wrong, *OTHER_THINGS]:
            if chosen not in ((), []):
                self.check_bad(3, marked, book, "main", "en", chosen)
                self.check_bad(3, marked, as_lists(book), "main", "en", chosen)
        deep = (1,)
        for _ in range(29):
            deep = (deep,)
        self.check_bad(3, marked, book, "main", "en", deep)
        # A form without gaps; the gaps of a term.
        self.check_bad(3, marked, book_of((A,)), "main", "en", ((1,),))
        self.check_bad(3, marked, RICH, "all", "en", ((0, 0, 1),))
        self.check_bad(3, marked, RICH, "own", "en", ((2,),))
        self.check(RICH, "own", "ch", ((2,),), slowmarks.marked(RICH, "own", "ch", ((2,),)))

    def test_result_that_is_no_lawful_book(self):
        # A pattern of more than 8 pieces, outermost or in a branch.
        for many in (7, 8):
            for pattern in ((MARK,) * many, (case((MARK,) * many, ()),)):
                book = book_of(pattern, N)
                gap = gaps(book, "main", "en")[0]
                if many == 7:
                    self.check(book, "main", "en", (gap,), slowmarks.marked(book, "main", "en", (gap,)))
                self.check_bad(0, marked, book, "main", "en", gaps(book, "main", "en")[:9 - many])
        # A message of more than 40 pieces in all its forms.
        for many in (6, 7):
            forms = (("en", (case(*[(MARK,) * 5] * 5), A)), ("sl", (MARK,) * many), ("de", (A,) * 6))
            book = (TONGUES, (("main", N, forms),))
            self.assertTrue(is_lawful(book))
            for tongue in ("en", "sl", "de"):
                self.assertEqual(is_book(slowmarks.marked(book, "main", tongue, ((1,),))), many == 6)
                if many == 7:
                    self.check_bad(0, marked, book, "main", tongue, ((1,),))
                else:
                    self.check(book, "main", tongue, ((1,),), slowmarks.marked(book, "main", tongue, ((1,),)))

    def test_result_with_ways_that_are_too_long(self):
        five = case((MARK,) * 5, ())
        for rest in (0, 1):
            book = book_of((five, five, five) + (A,) * rest, N)
            self.assertTrue(is_lawful(book))
            if rest == 0:
                self.check(book, "main", "en", ((0, 0, 1),), slowmarks.marked(book, "main", "en", ((0, 0, 1),)))
            else:
                self.check_bad(0, marked, book, "main", "en", ((0, 0, 1),))
            # The other branch has room.
            self.check(book, "main", "en", ((1,),) if rest == 0 else (), slowmarks.marked(
                book, "main", "en", ((1,),) if rest == 0 else ()))
        # The ways of another message that names this one.
        leaf = ("leaf", (), (("en", (A, A)), ("sl", (MARK, MARK))))
        for many, tongue in ((4, "en"), (5, "en"), (5, "sl")):
            terms = (("term", "leaf", ()),) * many
            book = (TONGUES, (leaf, ("main", (), (("en", terms + (A,) * (15 - 3 * many)),))))
            self.assertTrue(is_lawful(book))
            self.check(book, "leaf", tongue, (), book)
            chosen = ((1,),)
            whole = slowmarks.marked(book, "leaf", tongue, chosen)
            if (many, tongue) == (5, "en"):
                self.assertEqual(fault(whole), ("main", "en", "ways"))
                self.check_bad(0, marked, book, "leaf", tongue, chosen)
            elif tongue == "sl":
                self.check(book, "leaf", tongue, chosen, whole)

    def test_errors_in_their_order(self):
        self.check_first_errors(marked, ((1,),))
        self.check_first_errors(marked, ((9,),))
        # What is no gap is told before the book that would not be lawful.
        book = book_of((MARK,) * 8, N)
        self.check_bad(3, marked, book, "main", "en", ((1,), (8,)))
        self.check_bad(3, marked, book, "main", "en", ((1,), (1,)))
        self.check_bad(0, marked, book, "main", "en", ((1,), (2,)))

    def test_arguments_by_name(self):
        self.assertEqual(
            marked(chosen=[[1]], tongue="en", name="names", book=OVERVIEW),
            slowmarks.marked(OVERVIEW, "names", "en", ((1,),)))

    def test_random_books(self):
        chance = random.Random(72)
        counts = {True: 0, False: 0}
        for book, name, tongue, arguments in itertools.chain(
                lawful_forms(chance, 150),
                ((tight_book(chance), "main", "en", None) for _ in range(50))):
            every = gaps(book, name, tongue)
            for many in {0, 1, 2, len(every)}:
                if many <= len(every):
                    chosen = tuple(chance.sample(every, many))
                    expected = slowmarks.marked(book, name, tongue, chosen)
                    lawful = reference.is_book(expected) and is_lawful(expected)
                    counts[lawful] += 1
                    if lawful:
                        self.check(book, name, tongue, chosen, expected)
                    else:
                        self.check_bad(0, marked, book, name, tongue, chosen)
        self.assertGreater(min(counts.values()), 4, counts)


if __name__ == "__main__":
    unittest.main()
