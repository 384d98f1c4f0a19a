"""[3], [4], [24] to [26]: the values that say a text."""

import random
import unittest

from readhome.clashes import is_readable
from readhome.reading import read, readings
from readhome.saying import say
from tests import slow
from tests.cases import BIG, LONG, BookCase
from tests.randoms import lawful_forms
from tests.samples import OTHER_THINGS, OVERVIEW, RICH, SEX, as_lists, book_of, is_plain, text
from tests.test_ways import some_values

NUMBER, WORD = ("number",), ("word",)
MARK = ("mark",)
N, W = (("n", NUMBER),), (("w", WORD),)
TWO_WORDS = (("a", WORD), ("b", WORD))
TWO_NUMBERS = (("a", NUMBER), ("b", NUMBER))
BOTH = (("show", "a"), ("show", "b"))
ODD = ("odd", 2, (1,), 0, None)


class ReadingCase(BookCase):
    def check(self, book, name, tongue, told, limit, expected):
        for given in (book, as_lists(book)):
            before = repr(given)
            found = readings(given, name, tongue, told, limit)
            self.assertEqual(found, tuple(expected), told)
            self.assertTrue(is_plain(found))
            self.assertEqual(repr(given), before)
            first = read(given, name, tongue, told)
            self.assertEqual(first, expected[0] if expected else None, told)
            self.assertTrue(is_plain(first))

    def check_main(self, pattern, arguments, told, expected, limit=20, classes=()):
        self.check(book_of(pattern, arguments, classes), "main", "en", told, limit, expected)

    def check_unsaid(self, book, name, tongue, *texts):
        for told in texts:
            self.check(book, name, tongue, told, 1, ())
            self.check(book, name, tongue, told, 20, ())


class TestReadings(ReadingCase):
    def test_book_of_the_overview(self):
        self.check(OVERVIEW, "found", "en", "3 files of ann", 20, [(3, "ann")])
        self.check(OVERVIEW, "found", "en", "1 file of x", 1, [(1, "x")])
        self.check(OVERVIEW, "found", "en", f"{BIG} files of {LONG}", 2, [(BIG, LONG)])
        self.check(OVERVIEW, "names", "en", "aaa", 20, [("a", "aa"), ("aa", "a")])
        self.check_unsaid(
            OVERVIEW, "found", "en", "", "1 files of ann", "3 file of ann", "03 files of ann",
            "3 files of ", "3 files of Ann", " files of ann", "3 files of ann ", " 3 files of ann",
            "3  files of ann", "3 files of ann1", "-3 files of ann", "3 files ofann", "3 FILES of ann",
            "three files of ann", "33", "ann", "3 files of ann\n", "\u0663 files of ann",
            "3 files of \u00e4nn", "3 files of an\u0144", "\u00b3 files of ann")
        self.check_unsaid(OVERVIEW, "names", "en", "", "a", "a b", "aB", "a1", "\u00e4b")

    def test_rich_book(self):
        self.check(RICH, "all", "en", "1 file of his cat", 20, [(1, "cat", "male"), (1, "cat", "female")])
        self.check(RICH, "all", "en", "0 none of his cat", 1, [(0, "cat", "male")])
        self.check(RICH, "all", "ch", "cat|2|", 5, [(2, "cat", "male"), (2, "cat", "female")])
        self.check_unsaid(RICH, "all", "en", "1 file of her cat", "2 none of his cat", "01 file of his cat")
        self.check_unsaid(RICH, "all", "ch", "cat|1", "cat|2 ov", "cat|32", "cat2|", "|2|")

    def test_texts_alone(self):
        self.check_main((), (), "", [()])
        self.check_main(text("ab") + (MARK,), (), "ab|", [()])
        self.check_unsaid(book_of(()), "main", "en", " ", "a", "|")
        self.check_unsaid(book_of(text("ab") + (MARK,)), "main", "en", "", "ab", "ab||", "|ab", "b|", "aab|")

    def test_numbers_never_begin_with_0(self):
        self.check_main((("show", "n"),), N, "0", [(0,)])
        self.check_main((("show", "n"),), N, "10", [(10,)])
        self.check_unsaid(book_of((("show", "n"),), N), "main", "en", "00", "01", "007", "", "-1", "+1", "1 ")
        self.check_main(BOTH, TWO_NUMBERS, "00", [(0, 0)])
        self.check_main(BOTH, TWO_NUMBERS, "001", [])
        self.check_main(BOTH, TWO_NUMBERS, "010", [(0, 10)])
        self.check_main(BOTH, TWO_NUMBERS, "100", [(10, 0)])
        self.check_main(BOTH, TWO_NUMBERS, "1002", [(100, 2)])
        self.check_main(BOTH, TWO_NUMBERS, "1020", [(10, 20), (102, 0)])
        self.check_main(text("0") + (("show", "n"),), N, "00", [(0,)])
        self.check_main(text("0") + (("show", "n"),), N, "07", [(7,)])
        self.check_main((("show", "n"),) + text("0"), N, "0", [])
        self.check_main((("show", "n"),) + text("0"), N, "00", [(0,)])
        self.check_main((("show", "n"),) + text("0"), N, "100", [(10,)])

    def test_numbers_by_their_class(self):
        case = ("case", "n", (("odd", text("o")), ("other", text("e"))))
        pattern = (("show", "n"), case)
        for number in (0, 1, 9, 10, 11, 59, 60, 61, 99, 100, 101, BIG, BIG + 1):
            letter, wrong = ("o", "e") if number % 2 else ("e", "o")
            self.check_main(pattern, N, f"{number}{letter}", [(number,)], 20, (ODD,))
            self.check_main(pattern, N, f"{number}{wrong}", [], 20, (ODD,))
        # A bound at 30 is no bound by the last digit.
        low = ("low", 10, (0, 4), 4, 30)
        case = ("case", "n", (("low", text("l")), ("=3", text("l")), ("other", text("h"))))
        lows = [number for number in range(1000) if f"{number}l" == say(
            book_of((("show", "n"), case), N, (low,)), "main", "en", (number,))]
        self.assertEqual(lows, [3, 4, 10, 14, 20, 24, 30])
        for number in (0, 3, 4, 5, 10, 30, 34, 40, 44, 94, 100, 104, 130, 1030):
            letter, wrong = ("l", "h") if number in lows else ("h", "l")
            self.check_main((("show", "n"), case), N, f"{number}{letter}", [(number,)], 20, (low,))
            self.check_main((("show", "n"), case), N, f"{number}{wrong}", [], 20, (low,))

    def test_numbers_of_two_digits_before_more_digits(self):
        # 12 has a way of its own, though 42, 112 and so on go with the other numbers.
        case = ("case", "n", (("=12", (MARK,)), ("other", (("show", "n"), ("text", "57")))))
        self.check_main((case,), N, "1257", [])
        self.check_main((case,), N, "1357", [(13,)])
        self.check_main((case,), N, "4257", [(42,)])
        self.check_main((case,), N, "11257", [(112,)])
        case = ("case", "n", (("low", (("show", "n"), ("text", "57"))), ("other", (MARK,))))
        low = ("low", 1, (0,), 9, 30)
        for told, number in (("957", 9), ("1057", 10), ("3057", 30), ("857", None), ("3157", None),
                             ("9057", None), ("10057", None)):
            self.check_main((case,), N, told, [] if number is None else [(number,)], 20, (low,))

    def test_order_of_numbers(self):
        expected = [(1, 2345), (12, 345), (123, 45), (1234, 5)]
        self.check_main(BOTH, TWO_NUMBERS, "12345", expected)
        self.check_main(BOTH[::-1], TWO_NUMBERS, "12345", [pair[::-1] for pair in expected[::-1]])
        case = ("case", "m", (("=9", text("10")), ("other", ())))
        self.check_main((("show", "m"), case, ("show", "n")), (("m", NUMBER), ("n", NUMBER)), "9101", [
            (9, 1), (910, 1)])
        self.check_main((("show", "m"), ("show", "n")), (("n", NUMBER), ("m", NUMBER)), "1910", [
            (0, 191), (10, 19), (910, 1)])

    def test_order_of_words(self):
        arguments = (("a", WORD), ("s", SEX), ("b", WORD))
        pattern = (("show", "b"), ("show", "a"))
        self.check_main(pattern, arguments, "zyx", [
            ("x", "male", "zy"), ("x", "female", "zy"), ("yx", "male", "z"), ("yx", "female", "z")])
        # Shorter words first, those of one length as Python orders strings.
        pattern = (("case", "s", (("male", text("b")), ("other", text("ba")))), ("show", "a"))
        self.check_main(pattern, (("a", WORD), ("s", SEX)), "bab", [("b", "female"), ("ab", "male")])
        three = (("a", WORD), ("b", WORD), ("c", WORD))
        pattern = (("show", "b"), ("show", "a"), ("show", "c"))
        self.check_main(pattern, three, "dcba", [("b", "dc", "a"), ("c", "d", "ba"), ("cb", "d", "a")])

    def test_order_of_words_of_one_length(self):
        three = (("a", WORD), ("b", WORD), ("c", WORD))
        pattern = (("show", "b"), ("show", "a"), ("show", "c"))
        self.check_main(pattern, three, "zfyexdwcvb", [
            ("c", "zfyexdw", "vb"), ("d", "zfyex", "wcvb"), ("e", "zfy", "xdwcvb")], 3)
        self.check_main(pattern, three, "zfyexdwcvb", [("c", "zfyexdw", "vb")], 1)

    def test_order_of_options(self):
        four = ("choice", ("d", "a", "c", "b"))
        self.check_main(text("x"), (("c", four),), "x", [("d",), ("a",), ("c",), ("b",)])
        self.check_main(text("x"), (("c", four),), "x", [("d",), ("a",)], 2)
        case = ("case", "c", (("c", text("x")), ("d", text("y")), ("other", text("x"))))
        self.check_main((case,), (("c", four),), "x", [("a",), ("c",), ("b",)])
        self.check_main((case,), (("c", four), ("s", SEX)), "y", [("d", "male"), ("d", "female")])

    def test_the_first_argument_counts_first(self):
        # Ways in the order of the branches give values in another one.
        case = ("case", "n", (("=7", text("x")), ("=2", text("x")), ("other", text("y"))))
        self.check_main((case,), N, "x", [(2,), (7,)])
        case = ("case", "s", (("female", (("text", "1"), ("show", "n"))), ("other", (("show", "n"),))))
        self.check_main((case,), N + (("s", SEX),), "112", [(12, "female"), (112, "male")])
        self.check_main((case,), (("s", SEX),) + N, "112", [("male", 112), ("female", 12)])

    def test_arguments_that_are_not_shown(self):
        self.check_main(text("x"), N, "x", [(number,) for number in range(20)])
        self.check_main(text("x"), N, "x", [(number,) for number in range(3)], 3)
        self.check_main(text("x"), W, "x", [(letter,) for letter in "abcdefghijklmnopqrst"])
        self.check_main((), (("w", WORD), ("n", NUMBER)), "", [("a", number) for number in range(20)])
        self.check_main((), (("s", SEX), ("n", NUMBER)), "", [("male", number) for number in range(20)])
        self.check_main((), (("n", NUMBER), ("s", SEX)), "", [
            (number, sex) for number in range(10) for sex in SEX[1]])
        self.check_main(text("x"), N, "y", [])
        # Both the shown and the hidden ones in their order.
        self.check_main((("show", "b"),), TWO_WORDS, "ab", [(letter, "ab") for letter in "abcd"], 4)
        self.check_main((("show", "a"),), TWO_WORDS, "ab", [("ab", letter) for letter in "abcd"], 4)

    def test_hidden_numbers_by_their_class(self):
        tens = ("tens", 10, (0,), 12, None)
        case = ("case", "n", (("tens", text("t")), ("=7", text("t")), ("other", text("o"))))
        expected = [(7,)] + [(number,) for number in range(20, 210, 10)]
        self.check_main((case,), N, "t", expected, 20, (tens,))
        self.check_main((case,), N, "t", expected[:5], 5, (tens,))
        least = [number for number in range(1000) if number != 7 and (number < 12 or number % 10)]
        self.check_main((case,), N, "o", [(number,) for number in least[:20]], 20, (tens,))
        # Only numbers up to 30.
        case = ("case", "n", (("tens", text("t")), ("other", text("o"))))
        self.check_main((case,), N, "t", [(20,), (30,)], 20, (("tens", 10, (0,), 12, 30),))
        # The numbers of two ways are put together.
        case = ("case", "n", (("odd", text("x")), ("=4", text("y")), ("other", text("x"))))
        self.check_main((case,), N, "x", [(n,) for n in range(21) if n != 4], 20, (ODD,))

    def test_more_than_the_limit(self):
        told = "a" * 40
        every = [("a" * size, "a" * (40 - size)) for size in range(1, 40)]
        for limit in (1, 2, 19, 20):
            self.check_main(BOTH, TWO_WORDS, told, every[:limit], limit)
        self.check_main(BOTH, TWO_WORDS, "a" * 20, [("a" * k, "a" * (20 - k)) for k in range(1, 20)])

    def test_texts_beside_words_and_numbers(self):
        pattern = (("show", "a"), ("text", "ab"), ("show", "b"))
        self.check_main(pattern, TWO_WORDS, "abababab", [
            ("ab", "abab"), ("abab", "ab")])
        self.check_main(pattern, TWO_WORDS, "ab", [])
        self.check_main(pattern, TWO_WORDS, "xabx", [("x", "x")])
        pattern = (("show", "a"), ("text", "11"), ("show", "b"))
        self.check_main(pattern, TWO_NUMBERS, "11111", [(1, 11), (11, 1)])
        self.check_main(pattern, TWO_NUMBERS, "0110", [(0, 0)])
        self.check_main((("show", "w"), ("show", "n")), W + N, "ab12", [("ab", 12)])
        self.check_main((("show", "n"), ("show", "w")), W + N, "12ab", [("ab", 12)])

    def test_texts_of_240_signs(self):
        self.check_main((("show", "n"),), N, "1" * 240, [(int("1" * 240),)])
        self.check_main((("show", "w"),), W, "b" * 240, [("b" * 240,)])
        four = tuple((name, WORD) for name in "abcd")
        shows = tuple(("show", name) for name in "cadb")
        told = "".join(random.Random(5).choices("ab", k=240))
        book = book_of(shows, four)
        found = readings(book, "main", "en", told, 20)
        self.assertEqual(len(set(found)), 20)
        self.assertEqual(list(found), sorted(found, key=slow.order(four)))
        for values in found:
            self.assertEqual(say(book, "main", "en", values), told)
        # The least: `a` in as many places as there are, then the shortest for `b`.
        least = min(((told[at:at + 1], told[-1:], told[:at], told[at + 1:-1]) for at in range(1, 238)),
                    key=slow.order(four))
        self.assertEqual(found[0], least)
        numbers = tuple((name, NUMBER) for name in "abcd")
        shows = tuple(("show", name) for name in "abcd")
        self.check_main(shows, numbers, "1" * 240, [
            (1, 1, int("1" * size), int("1" * (238 - size))) for size in range(1, 21)])
        self.check_main(shows + text("-"), numbers, "1" * 240, [])
        self.check_main(shows, numbers, "0" * 240, [])

    def test_longest_forms_and_many_ways(self):
        twelve = ("case", "n", tuple((f"={at}", text("x" * 19 + str(at))) for at in range(4)) + (
            ("other", text("x" * 20)),))
        pattern = (("show", "w"),) + (("text", "x" * 20),) * 3 + (twelve, ("show", "v"))
        arguments = (("w", WORD), ("v", WORD), ("n", NUMBER))
        found = readings(book_of(pattern, arguments), "main", "en", "x" * 240, 20)
        self.assertEqual(found, tuple(("x", "x" * 159, number) for number in range(4, 24)))
        found = readings(book_of(pattern, arguments), "main", "en", "x" * 159 + "3" + "x" * 80, 20)
        self.assertEqual(found, (("x" * 80, "x" * 80, 3),))

    def test_limits(self):
        for limit in range(1, 21):
            found = readings(OVERVIEW, "names", "en", "aaaa", limit)
            self.assertEqual(found, (("a", "aaa"), ("aa", "aa"), ("aaa", "a"))[:limit])

    def test_arguments_by_name(self):
        self.assertEqual(
            readings(limit=1, text="ab", tongue="en", name="names", book=OVERVIEW), (("a", "b"),))
        self.assertEqual(read(text="ab", tongue="en", name="names", book=OVERVIEW), ("a", "b"))

    def test_errors_in_their_order(self):
        self.check_first_errors(readings, "ab", 1)
        self.check_first_errors(read, "ab")
        no_texts = [thing for thing in OTHER_THINGS if not isinstance(thing, str)] + [["ab"], ("a", "b")]
        for told in no_texts:
            self.check_bad(3, readings, OVERVIEW, "names", "en", told, 1)
            self.check_bad(3, readings, OVERVIEW, "names", "en", told, 0)
            self.check_bad(3, read, OVERVIEW, "names", "en", told)
        for limit in (0, 21, -1, 10 ** 30, True, False, None, "1", "", (), (1,), [1]):
            self.check_bad(4, readings, OVERVIEW, "names", "en", "ab", limit)
            self.check_bad(4, readings, OVERVIEW, "names", "en", "", limit)


class TestRandomReadings(ReadingCase):
    def test_changed_texts(self):
        chance = random.Random(43)
        counts = {}
        for book, name, tongue, arguments in lawful_forms(chance, 150):
            for values in some_values(chance, arguments, 3):
                told = say(book, name, tongue, values)
                if told:
                    at = chance.randrange(len(told))
                    told = chance.choice((
                        told, told, told[:at] + told[at + 1:], told[:at] + told[at] + told[at:],
                        told[:at] + chance.choice("ab017 |") + told[at + 1:]))
                if len(told) <= 8 and len(arguments) <= 3:
                    limit = chance.choice((1, 2, 3, 6))
                    expected = slow.readings(book, name, tongue, told, limit)
                    self.check(book, name, tongue, told, limit, expected)
                    counts[len(expected)] = counts.get(len(expected), 0) + 1
        # All kinds of texts were met.
        for many in range(4):
            self.assertGreater(counts[many], 10)

    def test_there_and_back(self):
        chance = random.Random(44)
        readable = 0
        for book, name, tongue, arguments in lawful_forms(chance, 250):
            its = is_readable(book, name, tongue)
            readable += its and len(arguments) > 0
            for values in some_values(chance, arguments, 4):
                told = say(book, name, tongue, values)
                found = readings(book, name, tongue, told, 20)
                if its:
                    self.assertEqual(found, (values,))
                    self.assertEqual(read(book, name, tongue, told), values)
                self.assertTrue(values in found or len(found) == 20)
                for other in found:
                    self.assertEqual(say(book, name, tongue, other), told)
                self.assertEqual(list(found), sorted(found, key=slow.order(arguments)))
        self.assertGreater(readable, 50)


if __name__ == "__main__":
    unittest.main()
