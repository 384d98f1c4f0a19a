"""[11], [17]: lawful books, and the first rule that another one breaks."""

import random
import unittest

from readhome.books import fault, is_book, is_lawful
from readhome.errors import BadValue
from readhome.saying import say
from tests import reference
from tests.randoms import random_book
from tests.samples import OVERVIEW, RICH, SEX, as_lists, book_of, changes, is_plain, text

NUMBER, WORD = ("number",), ("word",)
N = (("n", NUMBER),)
W = (("w", WORD),)
S = (("s", SEX),)
MARK = ("mark",)
ONE = ("one", 1, (0,), 1, 1)
EVEN, ODD = ("even", 2, (0,), 0, None), ("odd", 2, (1,), 0, None)


def case(argument, *branches):
    """A case; the last branch is given as its pattern alone."""
    return ("case", argument, branches[:-1] + (("other", branches[-1]),))


def equals(argument, many):
    """A case on a number with so many branches."""
    return case(argument, *((f"={at}", text("a")) for at in range(many - 1)), text("b"))


def term(name, **bindings):
    """A term; a binding to an option begins with a colon."""
    return ("term", name, tuple(
        (argument, ("option", source[1:]) if source[0] == ":" else ("argument", source))
        for argument, source in bindings.items()))


def message(name, pattern, arguments=()):
    return (name, arguments, (("en", pattern),))


class FaultCase(unittest.TestCase):
    def check(self, book, expected):
        """fault gives what is expected, for lists as for tuples, and changes nothing."""
        for value in (book, as_lists(book)):
            before = repr(value)
            found = fault(value)
            self.assertEqual(found, expected, before)
            self.assertTrue(is_plain(found))
            self.assertIs(is_lawful(value), expected is None)
            self.assertEqual(repr(value), before)
            if expected is not None:
                with self.assertRaises(BadValue) as caught:
                    say(value, "main", "en", ())
                self.assertEqual(caught.exception.at, 0)

    def check_rule(self, pattern, arguments, rule, classes=(), before=()):
        """The pattern, in the message `main`, breaks the rule; None for no rule."""
        book = book_of(tuple(pattern), arguments, classes, before)
        self.check(book, None if rule is None else ("main", "en", rule))


class TestName(FaultCase):
    def test_shows(self):
        self.check_rule((("show", "n"),), N, None)
        self.check_rule((("show", "w"),), W, None)
        self.check_rule((("show", "s"),), S, "name")
        self.check_rule((("show", "n"),), (), "name")
        self.check_rule((("show", "w"),), N, "name")

    def test_cases(self):
        self.check_rule((case("n", ()),), N, None)
        self.check_rule((case("s", ()),), S, None)
        self.check_rule((case("w", ()),), W, "name")
        self.check_rule((case("n", ()),), (), "name")
        self.check_rule((case("n", ()),), S, "name")

    def test_in_branches_and_where_no_value_comes(self):
        for piece in (("show", "x"), case("x", ()), ("show", "s"), case("w", ())):
            arguments = N + S + W
            self.check_rule((case("n", ("=1", (piece,)), ()),), arguments, "name")
            self.check_rule((case("n", (case("n", (piece,)),)),), arguments, "name")
            never = case("n", ("=1", (case("n", ("=2", (piece,)), ()),)), ())
            self.check_rule((never,), arguments, "name")

    def test_names_of_other_messages_do_not_count(self):
        before = (message("one", (("show", "n"),), N),)
        self.check_rule((("show", "n"),), W, "name", before=before)


class TestKey(FaultCase):
    def test_options(self):
        for key, rule in (("male", None), ("female", None), ("x", "key"), ("=1", "key"),
                          ("one", "key"), ("s", "key")):
            self.check_rule((case("s", (key, ()), ()),), S, rule, (ONE,))
        for key, rule in (("female", None), ("x", "key"), ("=1", "key"), ("one", "key")):
            self.check_rule((case("s", ("male", ()), (key, ()), ()),), S, rule, (ONE,))

    def test_classes(self):
        for key, rule in (("one", None), ("even", None), ("=0", None), ("=30", None), ("x", "key"),
                          ("male", "key"), ("n", "key"), ("few", "key")):
            self.check_rule((case("n", (key, ()), ()),), N + S, rule, (ONE, EVEN))
        self.check_rule((case("n", ("one", ()), ()),), N, "key")
        self.check_rule((case("n", ("=3", ()), ()),), N, None)

    def test_in_branches_and_where_no_value_comes(self):
        bad = case("s", ("x", ()), ())
        never = case("n", ("=1", (case("n", ("=2", (bad,)), ()),)), ())
        for pattern in ((case("n", (bad,)),), (case("n", ("=1", (bad,)), ()),), (never,)):
            self.check_rule(pattern, N + S, "key")

    def test_classes_are_those_of_the_tongue_of_the_form(self):
        tongues = (("en", "", (ONE,)), ("de", "en", (EVEN,)))
        one, even = (case("n", ("one", ()), ()),), (case("n", ("even", ()), ()),)
        for first, second, expected in (
            (one, even, None), (one, one, ("main", "de", "key")), (even, even, ("main", "en", "key")),
            (even, one, ("main", "en", "key")),
        ):
            forms = (("en", first), ("de", second))
            self.check((tongues, (("main", N, forms),)), expected)


class TestTerm(FaultCase):
    before = (
        message("num", (("show", "k"),), (("k", NUMBER),)),
        message("word", (("show", "v"),), (("v", WORD),)),
        message("sex", (), (("c", SEX),)),
        message("two", (), (("k", NUMBER), ("c", SEX))),
        message("none", ()),
    )

    def check_term(self, piece, arguments, rule):
        self.check_rule((piece,), arguments, rule, before=self.before)
        self.check_rule((case("m", (piece,)),), arguments + (("m", NUMBER),), rule, before=self.before)
        never = case("m", ("=1", (case("m", ("=2", (piece,)), ()),)), ())
        self.check_rule((never,), arguments + (("m", NUMBER),), rule, before=self.before)

    def test_messages_before(self):
        self.check_term(term("none"), (), None)
        self.check_term(term("gone"), (), "term")
        self.check_term(term("main"), (), "term")
        later = message("later", ())
        book = book_of((term("later"),))
        self.check((book[0], book[1] + (later,)), ("main", "en", "term"))
        self.check((book[0], (later,) + book[1]), None)

    def test_arguments_in_their_order(self):
        arguments = N + S
        for piece, rule in (
            (term("two", k="n", c="s"), None),
            (term("two", k="n", c=":female"), None),
            (term("two", c="s", k="n"), "term"),
            (term("two", k="n"), "term"),
            (term("two", c="s"), "term"),
            (term("two"), "term"),
            (term("two", k="n", c="s", d="s"), "term"),
            (term("two", k="n", d="s"), "term"),
            (term("none", n="n"), "term"),
            (term("num", n="n"), "term"),
            (("term", "two", (("k", ("argument", "n")),) * 2), "term"),
            (("term", "num", (("k", ("argument", "n")),) * 2), "term"),
        ):
            self.check_term(piece, arguments, rule)

    def test_arguments_of_the_same_kind(self):
        for source, rule in (("n", None), ("w", "term"), ("s", "term"), ("x", "term"), ("k", "term")):
            self.check_term(term("num", k=source), N + W + S, rule)
        for source, rule in (("w", None), ("n", "term"), ("s", "term"), ("x", "term"), ("v", "term")):
            self.check_term(term("word", v=source), N + W + S, rule)

    def test_options_in_the_same_order(self):
        for options, rule in (
            (("male", "female"), None), (("female", "male"), "term"), (("male", "x"), "term"),
            (("male", "female", "x"), "term"), (("x", "y"), "term"),
        ):
            self.check_term(term("sex", c="s"), (("s", ("choice", options)),), rule)

    def test_sources_that_are_options(self):
        for piece, rule in (
            (term("sex", c=":male"), None), (term("sex", c=":female"), None),
            (term("sex", c=":x"), "term"), (term("sex", c=":s"), "term"), (term("sex", c="male"), "term"),
            (term("num", k=":male"), "term"), (term("num", k=":n"), "term"), (term("num", k=":k"), "term"),
            (term("word", v=":male"), "term"), (term("word", v=":w"), "term"),
        ):
            self.check_term(piece, N + W + S, rule)
        # The option is one of the message that the term names, not of the outer one.
        self.check_term(term("sex", c=":x"), (("s", ("choice", ("x", "y"))),), "term")
        self.check_term(term("sex", c=":male"), (("s", ("choice", ("x", "y"))),), None)


class TestWays(FaultCase):
    def test_twenty_four_ways(self):
        four = tuple((name, NUMBER) for name in "abcd")
        for sizes, rule in (
            ((4, 3, 2), None), ((2, 3, 4), None), ((5, 5), "ways"), ((5, 4), None), ((3, 2, 2, 2), None),
            ((5, 5, 1), "ways"), ((1, 5, 5), "ways"), ((5, 2, 2), None), ((3, 3, 3), "ways"),
            ((5, 5, 5, 5), "ways"), ((2, 2, 2, 2), None),
        ):
            pattern = tuple(equals(name, many) for name, many in zip("abcd", sizes))
            self.check_rule(pattern, four, rule)

    def test_twenty_five_ways_by_one_branch(self):
        ways = {4: (equals("b", 4),), 5: (equals("b", 5),)}
        for last, rule in ((4, None), (5, "ways")):
            keys = [(f"={at}", ways[5]) for at in range(4)]
            self.check_rule((case("a", *keys, ways[last]),), (("a", NUMBER), ("b", NUMBER)), rule)

    def test_ways_within_terms(self):
        before = (message("m", (equals("k", 4), equals("l", 3)), (("k", NUMBER), ("l", NUMBER))),)
        arguments = (("a", NUMBER), ("b", NUMBER), ("c", NUMBER), ("s", SEX))
        inner = term("m", k="a", l="b")
        self.check_rule((inner,), arguments, None, before=before)
        self.check_rule((inner, equals("c", 2)), arguments, None, before=before)
        self.check_rule((inner, equals("c", 3)), arguments, "ways", before=before)
        self.check_rule((equals("c", 2), inner), arguments, None, before=before)
        self.check_rule((equals("c", 3), inner), arguments, "ways", before=before)
        # Bound to the same argument, the cases within depend on one another: 4 ways, not 12.
        same = term("m", k="a", l="a")
        self.check_rule((same, equals("b", 5)), arguments, None, before=before)
        self.check_rule((same, equals("b", 3), equals("s", 1)), arguments, None, before=before)
        self.check_rule((inner, inner, equals("c", 2)), arguments, None, before=before)

    def test_option_that_is_bound_takes_one_branch(self):
        choice = ("choice", ("p", "q", "r", "t"))
        branches = [(option, (MARK,)) for option in "pqr"]
        before = (message("m", (case("c", *branches, (MARK,)),), (("c", choice),)),)
        arguments = (("a", choice), ("b", choice), ("c", choice))
        free = (term("m", c="a"), term("m", c="b"))
        self.check_rule(free, arguments, None, before=before)
        self.check_rule(free + (term("m", c="c"),), arguments, "ways", before=before)
        for option in choice[1]:
            self.check_rule(free + (term("m", c=":" + option),), arguments, None, before=before)

    def test_branches_without_values_make_no_way(self):
        long = (MARK,) * 8
        eighteen = (case("m", ("=1", long), long), case("m", ("=1", long), long), MARK, MARK)
        arguments = N + (("m", NUMBER),) + S
        # Ways that meet 18 pieces break the rule just where some value comes.
        for pattern, classes, rule in (
            ((case("n", ("=3", eighteen), ()),), (), "ways"),
            ((case("n", ("=3", (case("n", ("=3", ()), eighteen),)), ()),), (), None),
            ((case("n", ("=3", (case("n", ("=4", eighteen), ()),)), ()),), (), None),
            ((case("n", ("=3", ()), (case("n", ("=3", eighteen), ()),)),), (), None),
            ((case("n", ("even", ()), ("odd", ()), eighteen),), (EVEN, ODD), None),
            ((case("n", ("even", ()), ("=1", ()), eighteen),), (EVEN, ODD), "ways"),
            ((case("n", ("one", ()), ("=1", eighteen), ()),), (ONE,), None),
            ((case("n", ("=1", ()), ("one", eighteen), ()),), (ONE,), None),
            ((case("n", ("=2", ()), ("one", eighteen), ()),), (ONE,), "ways"),
            ((case("n", ("odd", eighteen), ()),), (("all", 1, (0,), 0, None), ODD), None),
            ((case("n", ("odd", eighteen), ()),), (("all", 1, (0,), 2, None), ODD), "ways"),
            ((case("n", ("odd", eighteen), ()),), (("all", 1, (0,), 0, 30), ODD), "ways"),
            ((case("s", ("male", ()), ("female", ()), eighteen),), (), None),
            ((case("s", ("male", ()), eighteen),), (), "ways"),
            ((case("s", ("male", (case("s", ("male", ()), eighteen),)), ()),), (), None),
        ):
            self.check_rule(pattern, arguments, rule, classes)

    def test_numbers_above_thirty(self):
        long = (case("m", (MARK,) * 8), case("m", (MARK,) * 8), MARK)
        arguments = N + (("m", NUMBER),)
        small = ("small", 1, (0,), 0, 30)
        ends = ("ends", 10, (7,), 0, None)
        big = ("big", 1, (0,), 30, None)
        for pattern, classes, rule in (
            ((case("n", ("small", ()), long),), (small,), "ways"),
            ((case("n", ("small", ()), (case("n", ("ends", ()), long),)),), (small, ends), "ways"),
            ((case("n", ("small", ()), (case("n", ("ends", long), ()),)),), (small, ends), "ways"),
            ((case("n", ("small", ()), ("big", ()), long),), (small, big), None),
            ((case("n", ("small", ()), ("big", long), ()),), (small, big), "ways"),
            ((case("n", ("big", (case("n", ("=30", ()), long),)), ()),), (big,), "ways"),
        ):
            self.check_rule(pattern, arguments, rule, classes)

    def test_sixteen_pieces(self):
        for kind in (MARK, ("text", "a")):
            eight = (kind,) * 8
            self.check_rule((case("n", eight), case("n", eight)), N, None)
            self.check_rule((case("n", eight), case("n", eight), kind), N, "ways")
            self.check_rule((case("n", eight), case("n", eight), ("show", "n")), N, "ways")
            self.check_rule((case("n", eight), case("n", eight[1:]), ("show", "n")), N, None)
            self.check_rule((case("n", eight), ("show", "n"), case("n", eight[1:])), N, None)

    def test_each_way_is_counted_for_itself(self):
        eight = (MARK,) * 8
        self.check_rule((case("n", ("=1", eight), ()), case("n", eight), MARK), N, "ways")
        self.check_rule((case("n", ("=1", eight), ("=2", ()), ()), eight[0]) + eight[:6], N, None)
        self.check_rule((case("n", ("=1", eight), eight), case("n", ("=1", eight), eight)), N, None)
        # The longest way is no matter, but that each one is short.
        self.check_rule((case("n", ("=1", eight), ()), case("n", ("=1", ()), eight), MARK), N, None)

    def test_terms_count_as_well_as_what_they_say(self):
        for many in range(9):
            before = (message("m", (MARK,) * many),)
            for behind in range(7):
                pattern = (MARK,) * behind + (term("m"), term("m"))
                rule = None if behind + 2 * (1 + many) <= 16 else "ways"
                self.check_rule(pattern, (), rule, before=before)

    def test_terms_within_terms(self):
        before = (message("a", (MARK,) * 7), message("b", (term("a"),) + (MARK,) * 6))
        # b meets 14 pieces, so a term on it 15.
        self.check_rule((term("b"),), (), None, before=before)
        self.check_rule((term("b"), MARK), (), None, before=before)
        self.check_rule((term("b"), MARK, MARK), (), "ways", before=before)
        self.check_rule((term("b"), term("b")), (), "ways", before=before)
        chain = [message("a", ())]
        for name, inner in zip("bcdefgh", "abcdefg"):
            chain.append(message(name, (term(inner),) * 2))
        # Terms on nothing at all count, too: 2, 6, 14, then 30.
        self.check((book_of(())[0], tuple(chain[:4])), None)
        self.check((book_of(())[0], tuple(chain)), ("e", "en", "ways"))

    def test_eighty_characters(self):
        twenty = ("text", "t" * 20)
        self.check_rule((twenty,) * 4, (), None)
        self.check_rule((twenty,) * 4 + (MARK, MARK), (), None)
        self.check_rule((twenty,) * 4 + text("a"), (), "ways")
        self.check_rule((twenty,) * 3 + text("a" * 19) + text("a"), (), None)
        self.check_rule((twenty,) * 3 + text("a" * 19) + text("ab"), (), "ways")
        self.check_rule((twenty,) * 4 + (("show", "n"), ("show", "w")), N + W, None)

    def test_characters_in_terms_and_branches(self):
        twenty = ("text", "t" * 20)
        before = (message("m", (twenty,) * 3), message("k", (term("m"),)))
        for name in ("m", "k"):
            self.check_rule((term(name), twenty), (), None, before=before)
            self.check_rule((twenty, term(name)), (), None, before=before)
            self.check_rule((term(name), twenty, ("text", " ")), (), "ways", before=before)
        self.check_rule((case("n", ("=1", (twenty,) * 4), (twenty,) * 3), ("text", " ")), N, "ways")
        self.check_rule((case("n", ("=1", (twenty,) * 3), (twenty,) * 4), ("text", " ")), N, "ways")
        self.check_rule((case("n", ("=1", (twenty,) * 4), (twenty,) * 4),), N, None)
        self.check_rule((case("n", ("=1", (twenty,) * 4), ()),
                         case("n", ("=1", ()), (twenty,) * 4)), N, None)

    def test_ways_of_the_form_that_the_tongue_has(self):
        tongues = (("en", "", ()), ("de", "en", ()), ("ch", "de", ()))
        small, big = (MARK,), (MARK,) * 8
        for de_form, expected in ((small, None), (big, ("main", "de", "ways"))):
            inner = ("m", (), (("en", small), ("de", de_form)))
            outer = (term("m"), term("m")) + (MARK,)
            main = ("main", (), (("en", outer), ("de", outer)))
            self.check((tongues, (inner, main)), expected)
            # Without a form of its own the tongue adds no ways, and what a term says in a
            # form is in the tongue of this form.
            self.check((tongues, (inner, ("main", (), (("en", outer),)))), None)
            main = ("main", (), (("en", ()), ("ch", outer)))
            self.check((tongues, (inner, main)), expected and ("main", "ch", "ways"))


class TestOnce(FaultCase):
    def test_twice(self):
        show = ("show", "n")
        self.check_rule((show, show), N, "once")
        self.check_rule((show, ("show", "m")), N + (("m", NUMBER),), None)
        self.check_rule((("show", "w"), MARK, ("show", "w")), W, "once")
        self.check_rule((show, case("n", ("=1", (show,)), ())), N, "once")
        self.check_rule((case("n", (show,)), show), N, "once")

    def test_on_different_ways(self):
        show = ("show", "n")
        self.check_rule((case("n", ("=1", (show,)), (show,)),), N, None)
        self.check_rule((case("n", ("=1", (show,)), ()), case("n", ("=1", ()), (show,))), N, None)
        self.check_rule((case("n", ("=1", (show,)), ()), case("n", ("=1", (show,)), ())), N, "once")
        self.check_rule((case("n", ("=1", (show,)), ()), case("s", ("male", (show,)), ())), N + S,
                        "once")

    def test_where_no_value_comes(self):
        show = ("show", "n")
        never = case("n", ("=1", (case("n", ("=2", (show, show)), ()),)), ())
        self.check_rule((never,), N, None)
        self.check_rule((case("n", ("even", (show,)), ("odd", ()), (show, show)),), N, None,
                        (EVEN, ODD))

    def test_within_terms(self):
        before = (
            message("m", (("show", "a"), ("show", "b")), (("a", WORD), ("b", WORD))),
            message("k", (term("m", a="x", b="y"),), (("x", WORD), ("y", WORD))),
            message("c", (case("c", ("male", (("show", "a"),)), ()),), (("a", WORD), ("c", SEX))),
        )
        arguments = (("a", WORD), ("b", WORD), ("s", SEX))
        for pattern, rule in (
            ((term("m", a="a", b="b"),), None),
            ((term("m", a="b", b="a"),), None),
            ((term("m", a="a", b="a"),), "once"),
            ((term("k", x="a", y="b"),), None),
            ((term("k", x="b", y="b"),), "once"),
            ((term("c", a="a", c=":male"), ("show", "b")), None),
            ((term("c", a="a", c=":male"), ("show", "a")), "once"),
            ((term("c", a="a", c=":female"), ("show", "a")), None),
            ((term("c", a="a", c="s"), ("show", "a")), "once"),
            ((term("c", a="a", c="s"), case("s", ("male", ()), (("show", "a"),))), None),
            ((term("c", a="a", c="s"), case("s", ("male", (("show", "a"),)), ())), "once"),
            ((term("c", a="a", c="s"), term("c", a="b", c="s")), None),
            ((term("c", a="a", c="s"), term("c", a="a", c=":male")), "once"),
            ((term("c", a="a", c="s"), term("c", a="a", c=":female")), None),
        ):
            self.check_rule(pattern, arguments, rule, before=before)


class TestOrder(FaultCase):
    def test_lawful(self):
        for book in (OVERVIEW, RICH, ((("en", "", ()),), ())):
            self.check(book, None)

    def test_rules_of_one_form(self):
        twice = (("show", "n"), ("show", "n"))
        long = (case("n", (MARK,) * 8), case("n", (MARK,) * 8))
        pieces = {
            "name": (("show", "x"),), "key": (case("n", ("x", ()), ()),), "term": (term("gone"),),
            "ways": long, "once": twice,
        }
        for at, rule in enumerate(reference.RULES):
            others = reference.RULES[at + 1:]
            for broken in [()] + [(other,) for other in others] + [others]:
                pattern = pieces[rule]
                for other in broken:
                    pattern = pieces[other] + pattern
                if rule == "ways":
                    pattern += (MARK,)
                self.check_rule(pattern, N, rule)

    def test_rule_before_place(self):
        # What breaks an earlier rule may stand behind, or deeper, than what breaks a later one.
        deep = case("n", ("=1", (case("n", (("show", "x"),)),)), ())
        self.check_rule((case("n", ("x", ()), ()), deep), N, "name")
        self.check_rule((term("gone"), deep), N, "name")
        self.check_rule((term("gone"), case("n", ("=1", (case("n", ("x", ()), ()),)), ())), N, "key")

    def test_messages_then_forms(self):
        tongues = (("en", "", ()), ("de", "en", ()))
        name, key, once = (("show", "x"),), (case("n", ("x", ()), ()),), (("show", "n"),) * 2

        def book(*patterns):
            messages = [(label, N, (("en", first), ("de", second)))
                        for label, (first, second) in zip("ab", patterns)]
            return (tongues, tuple(messages))

        self.check(book((once, name), (name, name)), ("a", "en", "once"))
        self.check(book(((), once), (name, name)), ("a", "de", "once"))
        self.check(book(((), ()), (once, name)), ("b", "en", "once"))
        self.check(book(((), ()), ((), key)), ("b", "de", "key"))
        self.check(book(((), key), (name, ())), ("a", "de", "key"))
        self.check(book(((), ()), ((), ())), None)

    def test_no_book(self):
        for value in (None, True, 0, "", (), [], ((), ()), OVERVIEW[0], "en", [[["en", "", []]]]):
            with self.assertRaises(BadValue) as caught:
                fault(value)
            self.assertEqual(caught.exception.at, 0)
            self.assertIs(is_lawful(value), False)
        # A broken rule is nothing beside a wrong form.
        with self.assertRaises(BadValue):
            fault(book_of((("show", "x"), ("show", 1))))


class TestAgainstReference(unittest.TestCase):
    def test_one_part_changed(self):
        found = {}
        for value in changes(RICH):
            if is_book(value):
                expected = reference.fault(value)
                self.assertEqual(fault(value), expected, value)
                rule = expected and expected[2]
                found[rule] = found.get(rule, 0) + 1
        self.assertGreater(min(found[rule] for rule in (None, "name", "key", "term", "once")), 5)

    def test_random_books(self):
        chance = random.Random(17)
        found = {}
        for _ in range(300):
            book = random_book(chance, chance.choice((0.9, 0.97, 1)))
            self.assertTrue(is_book(book))
            expected = reference.fault(book)
            self.assertEqual(fault(book), expected, book)
            rule = expected and expected[2]
            found[rule] = found.get(rule, 0) + 1
        self.assertGreater(min(found[rule] for rule in (None,) + reference.RULES), 5)


if __name__ == "__main__":
    unittest.main()
