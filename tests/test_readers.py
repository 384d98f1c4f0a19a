"""[10], [37] to [39]: readers of several messages."""

import itertools
import random
import unittest

from readhome.clashes import clash
from readhome.crossing import shared, which
from readhome.errors import NoMessage, NoTongue, NotSaid, Shared, Twofold
from readhome.readers import Reader
from readhome.saying import say
from tests import reference
from tests.cases import BIG, LONG, NO_BOOKS, NO_NAMES, BookCase
from tests.randoms import lawful_books
from tests.samples import OTHER_THINGS, OVERVIEW, RICH, as_lists, is_plain, text
from tests.test_crossing import HOME, book_with, by_option
from tests.test_ways import some_values

NUMBER, WORD = ("number",), ("word",)
MARK = ("mark",)
N, W = (("n", NUMBER),), (("w", WORD),)
C = (("c", ("choice", ("x", "y"))),)
TWO_WORDS = (("a", WORD), ("b", WORD))
BOTH = (("show", "a"), ("show", "b"))
SHOW_N, SHOW_W = ("show", "n"), ("show", "w")
NO_TEXTS = tuple(thing for thing in OTHER_THINGS if not isinstance(thing, str))

# mb shares `a` with ma and `7` with mc, me is not readable, mf shares `|` with no one.
MANY = book_with(
    (W, (SHOW_W,)), (C, by_option(text("a"), text("7"))), (N, (SHOW_N,)), (W, (SHOW_W, MARK)),
    (TWO_WORDS, BOTH), ((), (MARK,)), (W, text("b") + (SHOW_W,)))
NAMES = tuple(row[0] for row in MANY[1])


class ReaderCase(BookCase):
    def check_names(self, reader, names):
        """The names that are in, by names, in and len."""
        self.assertEqual(reader.names(), tuple(names))
        self.assertTrue(is_plain(reader.names()))
        self.assertEqual(len(reader), len(names))
        self.assertIs(type(len(reader)), int)
        for name in (*NAMES, "found", "names", *OTHER_THINGS):
            self.assertIs(name in reader, isinstance(name, str) and name in names, name)

    def check_read(self, reader, told, expected):
        found = reader.read(told)
        self.assertEqual(found, expected)
        self.assertTrue(is_plain(found))

    def check_unsaid(self, reader, *texts):
        for told in texts:
            self.check_raises(NotSaid, "text", told, reader.read, told)
            for target in ("en", "gone", None):
                self.check_raises(NotSaid, "text", told, reader.carried, told, target)

    def check_twofold(self, reader, name, first, second):
        with self.assertRaises(Twofold) as caught:
            reader.put(name)
        self.assertIs(type(caught.exception), Twofold)
        self.assertEqual((caught.exception.first, caught.exception.second), (first, second))
        self.assertTrue(is_plain((caught.exception.first, caught.exception.second)))

    def check_shared(self, reader, name, other, told):
        with self.assertRaises(Shared) as caught:
            reader.put(name)
        self.assertIs(type(caught.exception), Shared)
        self.assertEqual((caught.exception.name, caught.exception.text), (other, told))

    def check_state(self, reader, book, tongue, names, texts):
        """All that a reader does, told by what is said of the messages that are in."""
        self.check_names(reader, [row[0] for row in book[1] if row[0] in names])
        for told in texts:
            found = [row for row in which(book, tongue, told) if row[0] in names]
            self.assertLessEqual(len(found), 1)
            if found:
                self.check_read(reader, told, found[0])
                for target in [row[0] for row in book[0]]:
                    self.assertEqual(
                        reader.carried(told, target), reference.say(book, found[0][0], target, found[0][1]))
            else:
                self.check_raises(NotSaid, "text", told, reader.read, told)


class TestPutAndTake(ReaderCase):
    def test_nothing_at_first(self):
        for book in (OVERVIEW, RICH, HOME, MANY, ((("en", "", ()),), ())):
            for given in (book, as_lists(book)):
                for row in book[0]:
                    reader = Reader(given, row[0])
                    self.check_names(reader, ())
                    self.check_unsaid(reader, "", "a", "7", "3 files of ann")

    def test_put(self):
        reader = Reader(OVERVIEW, "en")
        self.assertIsNone(reader.put("found"))
        self.check_names(reader, ("found",))
        self.check_read(reader, "3 files of ann", ("found", (3, "ann")))
        self.check_twofold(reader, "names", ("a", "aa"), ("aa", "a"))
        self.check_names(reader, ("found",))
        # Once more: nothing.
        self.assertIsNone(reader.put("found"))
        self.check_names(reader, ("found",))
        self.assertIsNone(reader.take("found"))
        self.check_names(reader, ())
        self.check_unsaid(reader, "3 files of ann")

    def test_names_in_the_sequence_of_the_book(self):
        for order in itertools.permutations(("ma", "mc", "md", "mf")):
            reader = Reader(MANY, "en")
            for many, name in enumerate(order, 1):
                reader.put(name)
                self.check_names(reader, sorted(order[:many]))
        turned = (MANY[0], MANY[1][::-1])
        reader = Reader(turned, "en")
        for name in ("ma", "mf", "mc"):
            reader.put(name)
        self.assertEqual(reader.names(), ("mf", "mc", "ma"))

    def test_not_readable(self):
        for before in ((), ("ma",), ("mc", "mf")):
            reader = Reader(MANY, "en")
            for name in before:
                reader.put(name)
            # This is told before a text that is shared.
            self.check_twofold(reader, "me", ("a", "aa"), ("aa", "a"))
            self.check_names(reader, before)
        book = book_with((N, text("a")), (C, by_option(text("b"), text("b"))), (N + C, (SHOW_N,)))
        reader = Reader(book, "en")
        self.check_twofold(reader, "ma", (0,), (1,))
        self.check_twofold(reader, "mb", ("x",), ("y",))
        self.check_twofold(reader, "mc", (0, "x"), (0, "y"))
        self.check_names(reader, ())

    def test_shared_texts(self):
        reader = Reader(MANY, "en")
        reader.put("ma")
        self.check_shared(reader, "mb", "ma", "a")
        self.check_shared(reader, "mg", "ma", "ba")
        reader.put("mc")
        # The first message in the reader, in the sequence of the book, not of the puts.
        self.check_shared(reader, "mb", "ma", "a")
        reader.take("ma")
        self.check_shared(reader, "mb", "mc", "7")
        reader.put("ma")
        self.check_shared(reader, "mb", "ma", "a")
        self.check_names(reader, ("ma", "mc"))
        reader.take("ma")
        reader.take("mc")
        reader.put("mb")
        self.check_shared(reader, "ma", "mb", "a")
        self.check_shared(reader, "mc", "mb", "7")
        reader.put("mg")
        self.check_shared(reader, "ma", "mb", "a")
        reader.take("mb")
        self.check_shared(reader, "ma", "mg", "ba")
        self.check_names(reader, ("mg",))

    def test_shared_text_is_that_of_shared(self):
        book = book_with((W, (SHOW_W,) + text("cdefg")), (W, text("abcde") + (SHOW_W,)), (
            C, by_option(text("zzcdefg"), text("b"))))
        reader = Reader(book, "en")
        reader.put("mb")
        self.check_shared(reader, "ma", "mb", "abcdefg")
        reader.put("mc")
        self.check_shared(reader, "ma", "mb", "abcdefg")
        reader.take("mb")
        self.check_shared(reader, "ma", "mc", "zzcdefg")
        self.check_names(reader, ("mc",))

    def test_empty_text(self):
        book = book_with(((), ()), (W, (SHOW_W,)), ((), ()), (N, ()))
        reader = Reader(book, "en")
        self.check_unsaid(reader, "")
        reader.put("ma")
        self.check_read(reader, "", ("ma", ()))
        self.check_shared(reader, "mc", "ma", "")
        self.check_twofold(reader, "md", (0,), (1,))
        reader.put("mb")
        self.check_read(reader, "", ("ma", ()))
        reader.take("ma")
        self.check_unsaid(reader, "")
        reader.put("mc")
        self.check_read(reader, "", ("mc", ()))
        self.assertEqual(reader.carried("", "en"), "")

    def test_what_is_no_name(self):
        reader = Reader(MANY, "en")
        reader.put("mc")
        for name in (*OTHER_THINGS, "mh", "m", "MA", "found", "en", "ma ", "w", ["ma"], ("ma",)):
            self.check_raises(NoMessage, "name", name, reader.put, name)
            self.check_raises(NoMessage, "name", name, reader.take, name)
            self.check_names(reader, ("mc",))
        for name in ("ma", "mb", "md", "me"):
            self.check_raises(NoMessage, "name", name, reader.take, name)
        reader.take("mc")
        self.check_raises(NoMessage, "name", "mc", reader.take, "mc")
        self.check_names(reader, ())

    def test_in_for_any_value(self):
        reader = Reader(MANY, "en")
        reader.put("ma")
        deep = ()
        for _ in range(29):
            deep = [deep]
        for thing in (*OTHER_THINGS, deep, ["ma"], ("ma",), ["ma"] * 5000, "ma" * 2500, "m", "a", "", 0,
                      {"ma": 1}, 10 ** 30):
            self.assertIs(thing in reader, False)
        self.assertIs("ma" in reader, True)
        self.assertIs("mb" in reader, False)


class TestRead(ReaderCase):
    def test_each_to_its_message(self):
        reader = Reader(MANY, "en")
        for name in ("md", "mc", "ma", "mf"):
            reader.put(name)
        self.check_read(reader, "ab", ("ma", ("ab",)))
        self.check_read(reader, "ab|", ("md", ("ab",)))
        self.check_read(reader, "|", ("mf", ()))
        self.check_read(reader, "70", ("mc", (70,)))
        self.check_unsaid(reader, "", "07", "a7", "||", "ab||", "Ab", " a", "\n")
        reader.take("ma")
        self.check_unsaid(reader, "ab")
        self.check_read(reader, "ab|", ("md", ("ab",)))

    def test_long_texts(self):
        reader = Reader(HOME, "en")
        reader.put("one")
        self.check_read(reader, f"{BIG} of {LONG}", ("one", (BIG, LONG)))
        self.assertEqual(reader.carried(f"{BIG} of {LONG}", "no"), f"{LONG}{BIG}")

    def test_tongues(self):
        for tongue, told in (("en", "3 of a"), ("sl", "a o 3"), ("de", "a o 3"), ("no", "a3")):
            reader = Reader(HOME, tongue)
            reader.put("one")
            self.check_read(reader, told, ("one", (3, "a")))
            for target, other in (("en", "3 of a"), ("sl", "a o 3"), ("de", "a o 3"), ("no", "a3")):
                self.assertEqual(reader.carried(told, target), other)
        reader = Reader(HOME, "de")
        for name in ("two", "all", "one"):
            reader.put(name)
        self.check_read(reader, "b-a", ("two", ("a", "b")))
        self.assertEqual(reader.carried("b-a", "sl"), "ab")
        self.assertEqual(reader.carried("2 of a?", "de"), "2 of a?")

    def test_errors_in_their_order(self):
        reader = Reader(HOME, "en")
        reader.put("one")
        for thing in NO_TEXTS:
            self.check_bad(0, reader.read, thing)
            for target in ("en", "gone", None):
                self.check_bad(0, reader.carried, thing, target)
        for target in (*OTHER_THINGS, "EN", "one", ["en"], "en "):
            self.check_raises(NotSaid, "text", "a o 3", reader.carried, "a o 3", target)
            self.check_raises(NoTongue, "name", target, reader.carried, "3 of a", target)
        self.assertEqual(reader.names(), ("one",))
        self.check_read(reader, "3 of a", ("one", (3, "a")))

    def test_arguments_by_name(self):
        reader = Reader(tongue="en", book=HOME)
        reader.put(name="one")
        self.assertEqual(reader.read(text="3 of a"), ("one", (3, "a")))
        self.assertEqual(reader.carried(target="no", text="3 of a"), "a3")
        reader.take(name="one")
        self.assertEqual(reader.names(), ())


class TestReaders(ReaderCase):
    def test_errors_of_the_class(self):
        for tongue in ("en", "gone", None):
            for book in NO_BOOKS:
                self.check_bad(0, Reader, book, tongue)
                self.check_bad(0, Reader, as_lists(book), tongue)
        for name in NO_NAMES:
            self.check_raises(NoTongue, "name", name, Reader, OVERVIEW, name)

    def test_methods_are_its_own(self):
        for name in ("put", "take", "names", "read", "carried", "__init__", "__contains__", "__len__"):
            self.assertIn(name, vars(Reader))

    def test_readers_do_not_change_one_another(self):
        readers = [Reader(MANY, "en") for _ in range(3)]
        readers[0].put("ma")
        readers[1].put("mb")
        self.check_names(readers[0], ("ma",))
        self.check_names(readers[1], ("mb",))
        self.check_names(readers[2], ())
        self.check_read(readers[0], "a", ("ma", ("a",)))
        self.check_read(readers[1], "a", ("mb", ("x",)))
        self.check_unsaid(readers[2], "a")
        readers[0].take("ma")
        self.check_names(readers[1], ("mb",))
        readers[0].put("mc")
        self.check_shared(readers[1], "mc", "mb", "7")

    def test_book_that_is_changed_later(self):
        book = as_lists(HOME)
        reader = Reader(book, "sl")
        reader.put("one")
        book[1][0][2][1][1][1] = ["text", "!"]
        book[1][2][2][0][1].clear()
        book[1][1][1].pop()
        book[0][0][0] = "gone"
        del book[0][3]
        self.check_read(reader, "a o 3", ("one", (3, "a")))
        self.assertEqual(reader.carried("a o 3", "no"), "a3")
        self.assertEqual(reader.carried("a o 3", "en"), "3 of a")
        reader.put("all")
        self.check_read(reader, "3 of a!", ("all", (3, "a", "male")))
        self.check_twofold(reader, "two", ("a", "aa"), ("aa", "a"))
        book.clear()
        self.check_read(reader, "3 of a!", ("all", (3, "a", "male")))
        self.assertEqual(reader.names(), ("one", "all"))

    def test_names_that_are_kept(self):
        reader = Reader(MANY, "en")
        before = reader.names()
        reader.put("ma")
        self.assertEqual(before, ())
        before = reader.names()
        reader.put("mc")
        reader.take("ma")
        self.assertEqual(before, ("ma",))

    def test_eight_messages_at_the_bounds(self):
        four, three = ("choice", ("p", "q", "r", "s")), ("choice", ("p", "q", "r"))
        arguments = W + (("x", four), ("y", three))

        def message(sign):
            return (arguments, (
                ("case", "x", tuple((key, text("a" * 19 + end)) for key, end in zip(
                    ("p", "q", "r", "other"), "bcde"))),
                ("case", "y", tuple((key, text("a" * 19 + end)) for key, end in zip(
                    ("p", "q", "other"), "bcd"))),
                SHOW_W, ("text", "a" * 20), ("text", "a" * 10 + sign)))

        book = book_with(*(message(sign) for sign in "bcdefghi"))
        reader = Reader(book, "en")
        for many in range(8):
            reader.put("m" + "hgfedcba"[many])
        self.assertEqual(reader.names(), tuple("m" + letter for letter in "abcdefgh"))
        for name, sign in zip(reader.names(), "bcdefghi"):
            values = (LONG, "q", "r")
            told = say(book, name, "en", values)
            self.check_read(reader, told, (name, values))
            self.assertTrue(told.endswith("a" + sign))

    def test_random_sequences(self):
        chance = random.Random(81)
        counts = {}
        for book in lawful_books(chance, ("mc", "ma", "mh", "md", "mb", "mf", "me", "mg"), 60):
            names = [row[0] for row in book[1]] + ["gone"]
            names += [name for name in names[:8] if clash(book, name, "en") is None] * 8
            texts = ["", "a", "1"]
            for name, arguments, _ in book[1]:
                texts += [say(book, name, "en", values) for values in some_values(chance, arguments, 2)]
            reader = Reader(chance.choice((book, as_lists(book))), "en")
            inside = set()
            for _ in range(15):
                name = chance.choice(names)
                if chance.random() < 0.25:
                    done = self.check_take(reader, name, inside)
                else:
                    done = self.check_put(reader, book, name, inside)
                counts[done] = counts.get(done, 0) + 1
                self.check_state(reader, book, "en", inside, chance.sample(texts, 4))
        for done in ("put", "again", "taken", "not in", "gone", Twofold, Shared):
            self.assertGreater(counts[done], 20, counts)

    def check_take(self, reader, name, inside):
        if name not in inside:
            self.check_raises(NoMessage, "name", name, reader.take, name)
            return "not in"
        self.assertIsNone(reader.take(name))
        inside.remove(name)
        return "taken"

    def check_put(self, reader, book, name, inside):
        if name == "gone":
            self.check_raises(NoMessage, "name", name, reader.put, name)
            return "gone"
        if name in inside:
            self.assertIsNone(reader.put(name))
            return "again"
        twofold = clash(book, name, "en")
        if twofold is not None:
            self.check_twofold(reader, name, *twofold[1:])
            return Twofold
        for other in [row[0] for row in book[1]]:
            common = shared(book, other, name, "en") if other in inside else None
            if common is not None:
                self.check_shared(reader, name, other, common[0])
                return Shared
        self.assertIsNone(reader.put(name))
        inside.add(name)
        return "put"


if __name__ == "__main__":
    unittest.main()
