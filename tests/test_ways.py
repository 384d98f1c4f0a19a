"""[9], [21] to [23]: the ways through a form, and the way that a value takes."""

import random
import unittest

from readhome.saying import class_of, say
from readhome.ways import way_of, ways
from tests import reference, slow
from tests.cases import BIG, LONG, BookCase
from tests.randoms import lawful_forms
from tests.samples import (
    OTHER_THINGS, OVERVIEW, RICH, SEX, as_lists, book_of, is_plain, part_at, places, text, with_part)

NUMBER, WORD = ("number",), ("word",)
MARK = ("mark",)
N = (("n", NUMBER),)
ALL = tuple(range(60))


def without(*numbers):
    return tuple(number for number in ALL if number not in numbers)


def some_values(chance, arguments, many):
    """Values of a message, numbers small and of thirty digits among them."""
    makers = {
        "number": lambda kind: chance.choice(
            (chance.randrange(13), chance.randrange(70), chance.randrange(10 ** 4),
             chance.randrange(10 ** 29, 10 ** 30))),
        "word": lambda kind: "".join(chance.choices("abyz", k=chance.randint(1, 4))),
        "choice": lambda kind: chance.choice(kind[1]),
    }
    return [tuple(makers[kind[0]](kind) for _, kind in arguments) for _ in range(many)]


class TestWays(BookCase):
    def check(self, book, name, tongue, expected):
        for given in (book, as_lists(book)):
            before = repr(given)
            found = ways(given, name, tongue)
            self.assertEqual(found, expected)
            self.assertTrue(is_plain(found))
            self.assertEqual(repr(given), before)

    def check_main(self, pattern, arguments, expected, classes=(), before=()):
        self.check(book_of(pattern, arguments, classes, before), "main", "en", expected)

    def test_book_of_the_overview(self):
        self.check(OVERVIEW, "found", "en", (
            (((1,), None), (("show", "n"), ("text", " file of "), ("show", "who"))),
            ((without(1), None), (("show", "n"), ("text", " files of "), ("show", "who"))),
        ))
        self.check(OVERVIEW, "names", "en", (((None, None), (("show", "a"), ("show", "b"))),))

    def test_no_arguments_and_no_pieces(self):
        self.check_main((), (), (((), ()),))
        self.check_main(text("a"), (), (((), (("text", "a"),)),))
        self.check_main((), (("n", NUMBER), ("s", SEX), ("w", WORD)), (
            ((ALL, ("male", "female"), None), ()),))

    def test_texts_side_by_side(self):
        self.check_main((("text", "a"), ("text", "b"), MARK, ("text", "c"), MARK, MARK), (), (
            ((), (("text", "ab"), MARK, ("text", "c"), MARK, MARK)),))
        self.check_main((("text", "x" * 20),) * 4, (), (((), (("text", "x" * 80),)),))
        # Across both sides of a case, and across a branch with nothing in it.
        case = ("case", "s", (("male", text("b")), ("female", ()), ("other", text("gone"))))
        self.check_main((("text", "a"), case, ("text", "c")), (("s", SEX),), (
            ((("male",),), (("text", "abc"),)),
            ((("female",),), (("text", "ac"),)),
        ))
        # Across both sides of a term, of a term that says nothing and of terms within terms.
        inner = ("inner", (), (("en", text("b")),))
        empty = ("empty", (), (("en", ()),))
        outer = ("outer", (), (("en", (("term", "inner", ()), ("term", "empty", ()), ("text", "c"))),))
        pattern = (("text", "a"), ("term", "outer", ()), ("text", "d"), ("term", "empty", ()), ("text", "e"))
        self.check_main(pattern, (), (((), (("text", "abcde"),)),), (), (inner, empty, outer))
        # Not across what is shown.
        self.check_main((("text", "a"), ("show", "w"), ("text", "b")), (("w", WORD),), (
            ((None,), (("text", "a"), ("show", "w"), ("text", "b"))),))

    def test_order_of_the_ways(self):
        size = ("size", ("choice", ("s", "m", "l")))
        case = ("case", "size", (("l", text("l")), ("s", text("s")), ("other", text("o"))))
        on_sex = ("case", "s", (("female", text("f")), ("other", text("m"))))
        self.check_main((case, on_sex), (("s", SEX), size), (
            ((("female",), ("l",)), (("text", "lf"),)),
            ((("male",), ("l",)), (("text", "lm"),)),
            ((("female",), ("s",)), (("text", "sf"),)),
            ((("male",), ("s",)), (("text", "sm"),)),
            ((("female",), ("m",)), (("text", "of"),)),
            ((("male",), ("m",)), (("text", "om"),)),
        ))

    def test_cases_within_cases(self):
        deep = ("case", "s", (("male", (("case", "n", (
            ("=1", text("one")), ("other", (MARK,)))), ("text", "!"))), ("other", (("show", "n"),))))
        self.check_main((deep, ("text", ".")), N + (("s", SEX),), (
            (((1,), ("male",)), (("text", "one!."),)),
            ((without(1), ("male",)), (MARK, ("text", "!."))),
            ((ALL, ("female",)), (("show", "n"), ("text", "."))),
        ))

    def test_cases_on_one_argument_within_one_another(self):
        inner = ("case", "n", (("=2", text("2")), ("odd", text("odd")), ("other", text("even"))))
        outer = ("case", "n", (("=1", text("one")), ("odd", (inner,)), ("other", (inner, MARK))))
        self.check_main((outer,), N, (
            (((1,),), (("text", "one"),)),
            ((tuple(n for n in ALL if n % 2 and n != 1),), (("text", "odd"),)),
            (((2,),), (("text", "2"), MARK)),
            ((tuple(n for n in ALL if n % 2 == 0 and n != 2),), (("text", "even"), MARK)),
        ), (("odd", 2, (1,), 0, None),))
        # One after another: the second case has no branch left to choose.
        case = ("case", "s", (("male", text("he")), ("other", text("she"))))
        self.check_main((case, case), (("s", SEX),), (
            ((("male",),), (("text", "hehe"),)), ((("female",),), (("text", "sheshe"),))))

    def test_keys_for_which_no_value_is_left(self):
        every, some = ("every", 1, (0,), 0, None), ("some", 5, (1,), 0, None)
        case = ("case", "n", (("every", text("e")), ("=3", text("3")), ("other", text("o"))))
        self.check_main((case,), N, (((ALL,), (("text", "e"),)),), (every, some))
        # A class that stands behind one with the same numbers has none.
        case = ("case", "n", (("some", text("s")), ("other", text("o"))))
        self.check_main((case,), N, (((ALL,), (("text", "o"),)),), (every, some))
        # A class whose only number is taken by a key before, or that has no number at all.
        case = ("case", "n", (("=7", text("7")), ("it", text("i")), ("none", text("n")), ("other", ())))
        self.check_main((case,), N, (
            (((7,),), (("text", "7"),)), ((without(7),), ()),
        ), (("it", 1, (0,), 7, 7), ("none", 10, (3,), 4, 12)))
        # Options that are all told leave none for `other`.
        case = ("case", "s", (("female", text("f")), ("male", text("m")), ("other", text("gone"))))
        self.check_main((case,), (("s", SEX),), (
            ((("female",),), (("text", "f"),)), ((("male",),), (("text", "m"),))))
        self.check_main((("case", "s", (("other", text("all")),)),), (("s", SEX),), (
            ((("male", "female"),), (("text", "all"),)),))

    def test_terms_with_bound_arguments_and_options(self):
        own = ("own", (("s", SEX), ("w", WORD)), (("en", (
            ("case", "s", (("male", text("his ")), ("other", text("her ")))), ("show", "w"))),))
        bound = (("s", ("option", "female")), ("w", ("argument", "who")))
        free = (("s", ("argument", "sex")), ("w", ("argument", "who")))
        arguments = (("who", WORD), ("sex", SEX))
        self.check_main((("term", "own", bound),), arguments, (
            ((None, ("male", "female")), (("text", "her "), ("show", "who"))),), (), (own,))
        self.check_main((("text", "to "), ("term", "own", free)), arguments, (
            ((None, ("male",)), (("text", "to his "), ("show", "who"))),
            ((None, ("female",)), (("text", "to her "), ("show", "who"))),
        ), (), (own,))
        # A case within the term and one beside it part the same argument once.
        case = ("case", "sex", (("female", text("f")), ("other", text("m"))))
        self.check_main((("term", "own", free), case), arguments, (
            ((None, ("male",)), (("text", "his "), ("show", "who"), ("text", "m"))),
            ((None, ("female",)), (("text", "her "), ("show", "who"), ("text", "f"))),
        ), (), (own,))
        # One argument bound to two of the message.
        both = ("both", (("a", SEX), ("b", SEX)), (("en", (
            ("case", "a", (("male", text("m")), ("other", text("f")))),
            ("case", "b", (("male", text("m")), ("other", text("f")))))),))
        self.check_main(
            (("term", "both", (("a", ("argument", "s")), ("b", ("argument", "s")))),), (("s", SEX),),
            (((("male",),), (("text", "mm"),)), ((("female",),), (("text", "ff"),))), (), (both,))

    def test_classes_of_the_tongue_of_the_form(self):
        self.check(RICH, "count", "ch", ways(RICH, "count", "sl"))
        self.assertEqual([limits for limits, _ in ways(RICH, "count", "en")],
                         [((0,),), ((1,),), (without(0, 1),)])
        self.assertEqual([limits[0] for limits, _ in ways(RICH, "all", "sl")],
                         [(0,), (1,), without(0, 1)])
        self.assertEqual([pieces for _, pieces in ways(RICH, "all", "ch")][1],
                         (("show", "who"), MARK, ("show", "k"), MARK))

    def test_limits_of_numbers(self):
        case = ("case", "n", (("it", text("a")), ("other", text("b"))))
        for modulus in (1, 2, 5, 10):
            for residues in {(0,), (modulus - 1,), tuple(range(0, modulus, 2)), tuple(range(modulus))}:
                for least, most in ((0, None), (1, None), (30, None), (0, 0), (0, 30), (11, 29), (30, 30)):
                    book = book_of((case,), N, (("it", modulus, residues, least, most),))
                    its = tuple(n for n in ALL if class_of(book, "en", n) == "it")
                    expected = (((its,), (("text", "a"),)), ((without(*its),), (("text", "b"),)))
                    self.check(book, "main", "en", tuple(way for way in expected if way[0][0]))

    def test_numbers_from_31_on_go_the_way_of_those_ten_below(self):
        case = ("case", "n", (("=30", text("a")), ("it", text("b")), ("to", text("c")), ("other", ())))
        classes = (("it", 5, (0, 3), 30, None), ("to", 1, (0,), 0, 30))
        self.check_main((case,), N, (
            (((30,),), (("text", "a"),)),
            (((33, 35, 38, 40, 43, 45, 48, 50, 53, 55, 58),), (("text", "b"),)),
            ((tuple(range(30)),), (("text", "c"),)),
            (((31, 32, 34, 36, 37, 39, 41, 42, 44, 46, 47, 49, 51, 52, 54, 56, 57, 59),), ()),
        ), classes)

    def test_most_ways(self):
        four = ("choice", ("a", "b", "c", "d"))
        last = ("case", "n", (("=4", text("4")), ("other", ())))
        leaf = ("case", "n", tuple((f"={at}", text(str(at))) for at in range(4)) + (("other", (last,)),))
        case = ("case", "c", tuple((key, (leaf,)) for key in ("b", "a", "d", "other")))
        found = ways(book_of((case,), N + (("c", four),)), "main", "en")
        self.assertEqual([limits[1] for limits, _ in found],
                         [(key,) for key in ("b", "a", "d", "c") for _ in range(6)])
        self.assertEqual([limits[0] for limits, _ in found],
                         [(0,), (1,), (2,), (3,), (4,), ALL[5:]] * 4)

    def test_arguments_by_name(self):
        self.assertEqual(ways(tongue="en", name="names", book=OVERVIEW),
                         (((None, None), (("show", "a"), ("show", "b"))),))

    def test_errors_in_their_order(self):
        self.check_first_errors(ways)

    def test_one_part_of_the_book_is_a_list(self):
        expected = ways(RICH, "all", "ch")
        for path in places(RICH):
            part = part_at(RICH, path)
            if isinstance(part, tuple):
                found = ways(with_part(RICH, path, (list(part),)), "all", "ch")
                self.assertEqual(found, expected)
                self.assertTrue(is_plain(found))

    def test_random_books(self):
        for book, name, tongue, _ in lawful_forms(random.Random(41), 250):
            self.assertEqual(ways(book, name, tongue), slow.ways(book, name, tongue))


class TestWayOf(BookCase):
    def test_book_of_the_overview(self):
        for number in (0, 2, 3, 11, 60, 61, 10 ** 29 + 1, BIG):
            self.assertEqual(way_of(OVERVIEW, "found", "en", (number, "ann")), 1)
        self.assertEqual(way_of(OVERVIEW, "found", "en", [1, LONG]), 0)
        self.assertEqual(way_of(as_lists(OVERVIEW), "names", "en", ("a", "b")), 0)
        self.assertIs(type(way_of(OVERVIEW, "names", "en", ("a", "b"))), int)

    def test_large_numbers_by_their_last_digit(self):
        for number in list(range(130)) + [BIG, BIG + 1, BIG + 2, 10 ** 30 - 9]:
            expected = {"one": 0, "few": 2, "other": 3}[class_of(RICH, "sl", number)]
            self.assertEqual(way_of(RICH, "count", "sl", (number,)), 1 if number == 2 else expected)

    def test_keys_of_ways_without_values_are_not_counted(self):
        case = ("case", "n", (("=1", text("a")), ("it", text("b")), ("other", text("c"))))
        book = book_of((case,), N, (("it", 1, (0,), 1, 1),))
        self.assertEqual([way_of(book, "main", "en", (number,)) for number in range(3)], [1, 0, 1])

    def test_every_value_is_on_one_way(self):
        chance = random.Random(42)
        for book, name, tongue, arguments in lawful_forms(chance, 150):
            found = ways(book, name, tongue)
            for values in some_values(chance, arguments, 6):
                at = way_of(book, name, tongue, values)
                self.assertEqual([slow.is_within(limits, values) for limits, _ in found],
                                 [number == at for number in range(len(found))])
                told = slow.shown(found[at][1], arguments, values)
                self.assertEqual(told, say(book, name, tongue, values))
                self.assertEqual(told, reference.say(book, name, tongue, values))

    def test_arguments_by_name(self):
        self.assertEqual(way_of(values=(1, "a"), tongue="en", name="found", book=OVERVIEW), 0)

    def test_errors_in_their_order(self):
        self.check_first_errors(way_of, (3, "ann"))
        for values in OTHER_THINGS + (
            (3,), (3, "ann", "x"), ("ann", 3), (True, "ann"), (-1, "ann"), (3, ""), (3, "Ann"), "3a",
        ):
            self.check_bad(3, way_of, OVERVIEW, "found", "en", values)
        self.check_bad(3, way_of, RICH, "own", "en", ("other", "cat"))


if __name__ == "__main__":
    unittest.main()
