"""[13], [18] to [20]: values, classes, forms, and what values say."""

import random
import unittest

from readhome.books import is_lawful
from readhome.errors import NoMessage, NoTongue
from readhome.saying import class_of, form_of, is_value, say
from tests import reference
from tests.cases import BIG, LONG, NO_BOOKS, NO_NAMES, BookCase
from tests.randoms import random_book
from tests.samples import (
    OTHER_THINGS, OVERVIEW, RICH, SEX, as_lists, book_of, is_plain, part_at, places, text, with_part)

NUMBER, WORD = ("number",), ("word",)
FOUR = (("n", NUMBER), ("w", WORD), ("s", SEX), ("c", ("choice", ("a", "b", "c", "d"))))
MARK = ("mark",)


class TestIsValue(BookCase):
    def check(self, book, name, value, expected):
        for given, thing in ((book, value), (as_lists(book), as_lists(value))):
            before = repr((given, thing))
            self.assertIs(is_value(given, name, thing), expected, before)
            self.assertEqual(repr((given, thing)), before)

    def check_one(self, kind, value, expected):
        """Whether value is a value of an argument of the kind."""
        self.check(book_of((), (("x", kind),)), "main", (value,), expected)

    def test_numbers(self):
        for value in (0, 1, 9, 10, 30, 31, 59, 60, 1000, 10 ** 30 - 1, 10 ** 30):
            self.check_one(NUMBER, value, True)
        for value in (-1, -10 ** 30, True, False, None, "", "0", "1", "a", (), (1,), [0]):
            self.check_one(NUMBER, value, False)

    def test_words(self):
        for value in ("a", "z", "ann", "other", "male", LONG, "x" * 101, "w" * 5000):
            self.check_one(WORD, value, True)
        for value in ("", "A", "Ann", "a b", " a", "a ", "a1", "1", "a-b", "a\n", "\n", "|", "`",
                      "{", "\u00e4", 0, 1, True, None, (), ("a",), ["a"]):
            self.check_one(WORD, value, False)

    def test_choices(self):
        for value in ("a", "b", "c", "d"):
            self.check_one(FOUR[3][1], value, True)
        for value in ("", "e", "ab", "other", "male", "A", 0, 1, True, None, (), ("a",), ["a"],
                      ("a", "b", "c", "d")):
            self.check_one(FOUR[3][1], value, False)
        # Options of another argument are none.
        self.check(book_of((), FOUR), "main", (1, "w", "a", "a"), False)
        self.check(book_of((), FOUR), "main", (1, "w", "male", "male"), False)
        self.check(book_of((), FOUR), "main", (1, "w", "female", "d"), True)

    def test_whole_messages(self):
        book = book_of((), FOUR)
        good = (3, "ann", "male", "b")
        self.check(book, "main", good, True)
        for many in range(4):
            self.check(book, "main", good[:many], False)
        self.check(book, "main", good + ("b",), False)
        self.check(book, "main", good + (1,), False)
        self.check(book, "main", good[::-1], False)
        self.check(book, "main", ("ann", 3, "male", "b"), False)
        for at in range(4):
            for thing in (-1, True, "", "A", None, (), (good[at],)):
                self.check(book, "main", good[:at] + (thing,) + good[at + 1:], False)
        self.check(book_of(()), "main", (), True)
        self.check(book_of(()), "main", ((),), False)

    def test_what_is_no_sequence_of_values(self):
        for value in OTHER_THINGS:
            self.check(OVERVIEW, "found", value, False)
        self.check(book_of((), (("a", WORD), ("b", WORD))), "main", "ab", False)
        self.check(book_of((), (("a", WORD),)), "main", "a", False)
        self.check(book_of(()), "main", "", False)
        self.check(book_of(()), "main", None, False)
        self.check(book_of(()), "main", 0, False)

    def test_each_message_has_its_own(self):
        self.check(OVERVIEW, "found", (3, "ann"), True)
        self.check(OVERVIEW, "names", (3, "ann"), False)
        self.check(OVERVIEW, "names", ("ann", "bob"), True)
        self.check(OVERVIEW, "found", ("ann", "bob"), False)
        self.assertIs(is_value(book=RICH, name="all", value=(1, "w", "male")), True)

    def test_errors_in_their_order(self):
        for book in NO_BOOKS:
            self.check_bad(0, is_value, book, "gone", ())
            self.check_bad(0, is_value, as_lists(book), None, None)
        for name in NO_NAMES:
            self.check_raises(NoMessage, "name", name, is_value, OVERVIEW, name, ())
            self.check_raises(NoMessage, "name", name, is_value, OVERVIEW, name, (3, "ann"))


class TestClassOf(BookCase):
    def check(self, classes, expected):
        """expected tells the class of each number that is not in `other`."""
        book = book_of((), (), classes)
        for number in range(130):
            for given in (book, as_lists(book)):
                self.assertEqual(class_of(given, "en", number), expected(number) or "other", number)

    def test_no_classes(self):
        self.check((), lambda number: None)

    def test_modulus_and_residues(self):
        for modulus, residues in ((1, (0,)), (2, (0,)), (2, (1,)), (5, (0,)), (5, (1, 4)),
                                  (10, (0, 2, 3)), (10, (9,)), (10, tuple(range(10)))):
            self.check((("a", modulus, residues, 0, None),),
                       lambda number: "a" if number % modulus in residues else None)

    def test_least_and_most(self):
        for least, most in ((0, 0), (0, 1), (1, 1), (2, 4), (0, 30), (30, 30), (29, 30), (11, 19)):
            self.check((("a", 1, (0,), least, most),),
                       lambda number: "a" if least <= number <= most else None)
        for least in (0, 1, 2, 29, 30):
            self.check((("a", 1, (0,), least, None),),
                       lambda number: "a" if number >= least else None)
        self.check((("a", 2, (1,), 3, 9),), lambda number: "a" if number in (3, 5, 7, 9) else None)

    def test_first_of_several(self):
        one, odd = ("one", 1, (0,), 1, 1), ("odd", 2, (1,), 0, None)
        few, every = ("few", 5, (2, 3, 4), 2, 30), ("every", 1, (0,), 0, None)
        self.check((one, odd), lambda number: (
            "one" if number == 1 else "odd" if number % 2 else None))
        self.check((odd, one), lambda number: "odd" if number % 2 else None)
        self.check((few, odd, one, every), lambda number: (
            "few" if number % 5 > 1 and number <= 30 else "odd" if number % 2 else "every"))
        self.check((every, few, odd, one), lambda number: "every")

    def test_each_tongue_has_its_own(self):
        for tongue, classes in (("en", "one"), ("sl", "one"), ("ch", "other")):
            self.assertEqual(class_of(RICH, tongue, 1), classes)
        self.assertEqual([class_of(RICH, "en", number) for number in (11, 2, 32)], ["other"] * 3)
        self.assertEqual([class_of(RICH, "sl", number) for number in (11, 2, 32)],
                         ["one", "few", "other"])

    def test_great_numbers(self):
        book = book_of((), (), (("end", 10, (7,), 30, None), ("low", 1, (0,), 0, 30)))
        for number, expected in ((BIG + 7, "end"), (BIG, "other"), (10 ** 30 - 1, "other"),
                                 (10 ** 30 - 3, "end"), (10 ** 29, "other")):
            self.assertEqual(class_of(book, "en", number), expected)
        self.assertEqual(class_of(book=book, tongue="en", number=27), "low")

    def test_errors_in_their_order(self):
        bad = (-1, -10 ** 30, True, False, None, "", "1", "a", (), (1,), [1])
        for number in bad:
            self.check_bad(2, class_of, OVERVIEW, "en", number)
            self.check_raises(NoTongue, "name", "de", class_of, OVERVIEW, "de", number)
            self.check_bad(0, class_of, (), "de", number)
        for name in NO_NAMES:
            self.check_raises(NoTongue, "name", name, class_of, OVERVIEW, name, 1)
            self.check_raises(NoTongue, "name", name, class_of, OVERVIEW, name, -1)
        for book in NO_BOOKS:
            self.check_bad(0, class_of, book, "en", 1)


class TestFormOf(BookCase):
    def test_own_form_or_that_of_the_parents(self):
        for name, homes in (("own", ("en", "en", "ch")), ("count", ("en", "sl", "sl")),
                            ("all", ("en", "en", "ch"))):
            forms = {row[0]: dict(row[2]) for row in RICH[1]}[name]
            for tongue, home in zip(("en", "sl", "ch"), homes):
                for book in (RICH, as_lists(RICH)):
                    before = repr(book)
                    found = form_of(book, name, tongue)
                    self.assertEqual(found, (home, forms[home]))
                    self.assertTrue(is_plain(found))
                    self.assertEqual(repr(book), before)

    def test_parents_parent_and_not_a_tongue_beside_it(self):
        tongues = (("a", "", ()), ("b", "a", ()), ("c", "b", ()), ("d", "a", ()))
        book = (tongues, (
            ("one", (), (("a", text("a")),)),
            ("two", (), (("a", text("a")), ("b", text("b")))),
            ("three", (), (("a", text("a")), ("c", text("c")))),
            ("four", (), (("a", text("a")), ("b", text("b")), ("d", ()))),
        ))
        for name, homes in (("one", "aaaa"), ("two", "abba"), ("three", "aaca"), ("four", "abbd")):
            self.assertEqual("".join(form_of(book, name, tongue)[0] for tongue in "abcd"), homes)
        self.assertEqual(form_of(book=book, name="four", tongue="d"), ("d", ()))

    def test_later_changes_have_no_effect(self):
        book = as_lists(RICH)
        found = form_of(book, "count", "en")
        expected = form_of(RICH, "count", "en")
        book[1][1][2][0][1].clear()
        self.assertEqual(found, expected)

    def test_errors_in_their_order(self):
        self.check_first_errors(form_of)
        self.check_raises(NoMessage, "name", "en", form_of, OVERVIEW, "en", "found")


class TestSay(BookCase):
    def check(self, book, name, tongue, values, expected):
        for given, thing in ((book, values), (as_lists(book), as_lists(values))):
            before = repr((given, thing))
            self.assertEqual(say(given, name, tongue, thing), expected)
            self.assertEqual(repr((given, thing)), before)

    def check_pattern(self, pattern, values, expected, arguments=FOUR, classes=(), before=()):
        self.check(book_of(pattern, arguments, classes, before), "main", "en", values, expected)

    def test_example_of_the_document(self):
        self.check(OVERVIEW, "found", "en", (3, "ann"), "3 files of ann")
        self.check(OVERVIEW, "found", "en", (1, "ann"), "1 file of ann")
        self.check(OVERVIEW, "found", "en", (0, "bob"), "0 files of bob")
        self.check(OVERVIEW, "names", "en", ("a", "aa"), "aaa")
        self.check(OVERVIEW, "names", "en", ("aa", "a"), "aaa")

    def test_pieces(self):
        values = (12, "ann", "male", "b")
        self.check_pattern((), values, "")
        self.check_pattern(text(" !$&-9:;<=>?@A[]_`z"), values, " !$&-9:;<=>?@A[]_`z")
        self.check_pattern((MARK,), values, "|")
        self.check_pattern((MARK, MARK) + text(" ") + (MARK,), values, "|| |")
        self.check_pattern((("show", "w"), ("show", "n")), values, "ann12")
        self.check_pattern((("show", "n"),) + text("7") + (("show", "w"),), values, "127ann")
        self.check_pattern(text("a") + text("b") + text("c"), values, "abc")

    def test_great_numbers_and_long_words(self):
        for number in (0, 1, 9, 10, 59, 60, 61, 1000000, BIG, 10 ** 29, 10 ** 30 - 1):
            for word in ("a", "other", LONG):
                self.check_pattern((("show", "n"), MARK, ("show", "w")),
                                   (number, word, "male", "a"), f"{number}|{word}")

    def test_cases_on_choices(self):
        pattern = (("case", "c", (("c", text("C")), ("a", text("A")), ("other", text("O")))),)
        for option, expected in zip("abcd", "AOCO"):
            self.check_pattern(pattern, (0, "w", "male", option), expected)
        # An option that is called as a class or as an argument is an option still.
        pattern = (("case", "c", (("one", text("1")), ("n", text("N")), ("other", text("O")))),)
        arguments = (("n", NUMBER), ("c", ("choice", ("n", "one", "x"))))
        for option, expected in (("n", "N"), ("one", "1"), ("x", "O")):
            self.check_pattern(pattern, (1, option), expected, arguments, (("one", 1, (0,), 1, 1),))

    def test_cases_on_numbers(self):
        classes = (("one", 10, (1,), 0, None), ("few", 5, (2, 3, 4), 0, 30))
        pattern = (("case", "n", (
            ("=11", text("eleven")), ("few", text("few")), ("=2", text("two")), ("one", text("one")),
            ("other", text("many")))),)
        for number, expected in (
            (0, "many"), (1, "one"), (2, "few"), (3, "few"), (5, "many"), (11, "eleven"), (21, "one"),
            (22, "few"), (32, "many"), (31, "one"), (101, "one"), (111, "one"), (1011, "one"),
            (10 ** 29 + 11, "one"), (10 ** 29 + 12, "many"), (30, "many"), (59, "many"), (60, "many"),
            (61, "one"),
        ):
            self.check_pattern(pattern, (number, "w", "male", "a"), expected, FOUR, classes)

    def test_each_key_of_a_number(self):
        for key in range(31):
            pattern = (("case", "n", ((f"={key}", text("that")), ("other", text("else")))),)
            for number in (*range(33), key + 10, key + 60, key + 100, 10 * key + 100):
                expected = "that" if number == key else "else"
                self.check_pattern(pattern, (number, "w", "male", "a"), expected)

    def test_class_other_takes_the_last_branch(self):
        pattern = (("case", "n", (("one", text("one")), ("other", text("other")))),)
        classes = (("two", 1, (0,), 2, 2), ("one", 1, (0,), 1, 2))
        for number, expected in ((0, "other"), (1, "one"), (2, "other"), (3, "other")):
            self.check_pattern(pattern, (number, "w", "male", "a"), expected, FOUR, classes)

    def test_cases_within_cases(self):
        inner = ("case", "n", (("=1", text("b")), ("=2", (("show", "w"),)), ("other", (MARK,))))
        pattern = (("case", "s", (("male", (inner,) + text("!")), ("other", text("c") + (inner,)))),)
        for number, sex, expected in ((1, "male", "b!"), (2, "male", "w!"), (3, "male", "|!"),
                                      (1, "female", "cb"), (2, "female", "cw"), (7, "female", "c|")):
            self.check_pattern(pattern, (number, "w", sex, "a"), expected)

    def test_terms(self):
        before = (
            ("own", (("s", SEX), ("x", WORD)), (("en", (
                ("case", "s", (("male", text("his ")), ("other", text("her ")))), ("show", "x"))),)),
            ("count", (("n", NUMBER),), (("en", (
                ("show", "n"), ("case", "n", (("=1", ()), ("other", text("s")))))),)),
            ("both", (("k", NUMBER), ("s", WORD)), (("en", (
                ("term", "count", (("n", ("argument", "k")),)), MARK,
                ("term", "own", (("s", ("option", "female")), ("x", ("argument", "s")))))),)),
        )
        numbers = ("term", "count", (("n", ("argument", "n")),))
        for pattern, values, expected in (
            ((("term", "own", (("s", ("argument", "s")), ("x", ("argument", "w")))),),
             (1, "cat", "female", "a"), "her cat"),
            ((("term", "own", (("s", ("option", "male")), ("x", ("argument", "w")))),),
             (1, "cat", "female", "a"), "his cat"),
            ((("term", "own", (("s", ("option", "female")), ("x", ("argument", "w")))),),
             (1, "cat", "male", "a"), "her cat"),
            ((numbers,), (1, "cat", "male", "a"), "1"),
            ((numbers,) + text(" "), (BIG, "cat", "male", "a"), f"{BIG}s "),
            ((("term", "both", (("k", ("argument", "n")), ("s", ("argument", "w")))),),
             (2, "cat", "male", "a"), "2s|her cat"),
        ):
            self.check_pattern(pattern, values, expected, FOUR, (), before)

    def test_tongues(self):
        for tongue, number, expected in (
            ("en", 0, "0 none"), ("en", 1, "1 file"), ("en", 2, "2 files"), ("en", 11, "11 files"),
            ("sl", 0, "0 ov"), ("sl", 1, "1 a"), ("sl", 11, "11 a"), ("sl", 2, "2|"), ("sl", 3, "3"),
            ("sl", 32, "32 ov"), ("ch", 1, "1 a"), ("ch", 2, "2|"), ("ch", 3, "3"), ("ch", 5, "5 ov"),
        ):
            self.check(RICH, "count", tongue, (number,), expected)
        values = (1, "cat", "female")
        self.check(RICH, "own", "sl", ("female", "cat"), "her cat")
        self.check(RICH, "own", "ch", ("female", "cat"), "cat|")
        self.check(RICH, "all", "en", values, "1 file of his cat")
        # The form is the one of en, so its terms say what they say in en.
        self.check(RICH, "all", "sl", values, "1 file of his cat")
        self.check(RICH, "all", "ch", values, "cat|1 a")

    def test_classes_are_those_of_the_tongue_of_the_form(self):
        tongues = (("en", "", (("one", 1, (0,), 1, 1),)), ("de", "en", (("one", 1, (0,), 2, 2),)))
        pattern = (("case", "n", (("one", text("one")), ("other", text("many")))),)
        count = ("count", (("n", NUMBER),), (("en", pattern),))
        own = ("own", (("n", NUMBER),), (("en", pattern), ("de", pattern)))
        for number, first, second in ((1, "one", "many"), (2, "many", "one"), (3, "many", "many")):
            book = (tongues, (count, own))
            self.check(book, "count", "en", (number,), first)
            self.check(book, "count", "de", (number,), first)
            self.check(book, "own", "en", (number,), first)
            self.check(book, "own", "de", (number,), second)

    def test_arguments_by_name(self):
        self.assertEqual(say(values=[3, "ann"], tongue="en", name="found", book=OVERVIEW),
                         "3 files of ann")

    def test_errors_in_their_order(self):
        self.check_first_errors(say, (3, "ann"))
        for values in OTHER_THINGS + (
            (3,), (3, "ann", "x"), ("ann", 3), (True, "ann"), (-1, "ann"), (3, ""), (3, "Ann"),
            ("3", "ann"), (None, "ann"), (3, None), ((3, "ann"),), ((3,), "ann"), (3, ["a"]), "3a",
        ):
            self.check_bad(3, say, OVERVIEW, "found", "en", values)
        self.check_bad(3, say, RICH, "own", "en", ("x", "cat"))
        self.check_bad(3, say, RICH, "own", "en", ("other", "cat"))

    def test_one_part_of_the_book_is_a_list(self):
        for path in places(RICH):
            part = part_at(RICH, path)
            if isinstance(part, tuple):
                book = with_part(RICH, path, (list(part),))
                self.assertEqual(say(book, "all", "ch", (2, "w", "male")), "w|2|")
                self.assertTrue(is_plain(form_of(book, "all", "ch")))

    def test_random_books(self):
        chance = random.Random(23)
        said = 0
        while said < 2000:
            book = random_book(chance, 1)
            if not is_lawful(book):
                continue
            for name, arguments, _ in book[1]:
                for tongue, _, _ in book[0]:
                    self.assertEqual(form_of(book, name, tongue), reference.form_of(book, name, tongue))
                    rows = list(reference.values_of(arguments, 42))
                    for values in chance.sample(rows, min(3, len(rows))):
                        self.assertEqual(
                            say(book, name, tongue, values), reference.say(book, name, tongue, values))
                        said += 1


if __name__ == "__main__":
    unittest.main()
