"""[12], [40] to [42]: patterns as texts."""

import random
import unittest

from readhome.errors import BadPattern
from readhome.texts import parse_pattern, printed_pattern
from tests import grammar, reference
from tests.cases import BookCase
from tests.randoms import lawful_forms
from tests.samples import OTHER_THINGS, OVERVIEW, RICH, as_lists, changes, is_plain, text

MARK = ("mark",)
NO_TEXTS = tuple(thing for thing in OTHER_THINGS if not isinstance(thing, str))
SIGNS = [chr(code) for code in range(32, 127)] + ["\n"]

# Each kind of piece, and what may stand in it.
SAMPLES = {
    "": (),
    "|": (MARK,),
    "||": (MARK, MARK),
    " ": text(" "),
    "a b": text("a b"),
    "ab|cd": text("ab") + (MARK,) + text("cd"),
    "{n}": (("show", "n"),),
    "{n}{others}": (("show", "n"), ("show", "others")),
    "{abcdefgh}": (("show", "abcdefgh"),),
    "a{n} b": text("a") + (("show", "n"),) + text(" b"),
    ";;": text(";"),
    "::": text(":"),
    "a;;b::c": text("a;b:c"),
    ";;;;::::": text(";;::"),
    ",=?@&$'()*+-./0<>[\\]^_`zAZ!\"#": text(",=?@&$'()*+-./0<>[\\]") + text("^_`zAZ!\"#"),
    "{n? other: }": (("case", "n", (("other", ()),)),),
    "{n? other:  }": (("case", "n", (("other", text(" ")),)),),
    "{n? one: a; other: b}": (("case", "n", (("one", text("a")), ("other", text("b")))),),
    "{n? one:  file; other:  files}": (("case", "n", (("one", text(" file")), ("other", text(" files")))),),
    "{n? =0: |; =30: {n}; =7: ; =19: ; other: }": (("case", "n", (
        ("=0", (MARK,)), ("=30", (("show", "n"),)), ("=7", ()), ("=19", ()), ("other", ()))),),
    "{n? a: ;;; other: ::}": (("case", "n", (("a", text(";")), ("other", text(":")))),),
    "{n? a: x;;;; ; other: ;;}": (("case", "n", (("a", text("x;; ")), ("other", text(";")))),),
    "{s? m: {n? =1: {s? f: ; other: {x? other: |}}; other: a}; other: b}c": (("case", "s", (
        ("m", (("case", "n", (
            ("=1", (("case", "s", (("f", ()), ("other", (("case", "x", (("other", (MARK,)),)),)))),)),
            ("other", text("a")))),)),
        ("other", text("b")))),) + text("c"),
    "{@name}": (("term", "name", ()),),
    "{@name a=b}": (("term", "name", (("a", ("argument", "b")),)),),
    "{@name a=b, c=:male}": (("term", "name", (("a", ("argument", "b")), ("c", ("option", "male")))),),
    "{@x a=:a, a=:b, a=c, abcdefgh=:abcdefgh}": (("term", "x", (
        ("a", ("option", "a")), ("a", ("option", "b")), ("a", ("argument", "c")),
        ("abcdefgh", ("option", "abcdefgh")))),),
    "{@a}{@b}": (("term", "a", ()), ("term", "b", ())),
    "{n? other: {@a b=c}}": (("case", "n", (("other", (("term", "a", (("b", ("argument", "c")),)),)),)),),
    "{@own s=s, w=who}{n? few: {n? =2: |; other: }; other:  ov}!": (
        ("term", "own", (("s", ("argument", "s")), ("w", ("argument", "who")))),
        ("case", "n", (("few", (("case", "n", (("=2", (MARK,)), ("other", ()))),)), ("other", text(" ov")))),
    ) + text("!"),
}


class TextCase(BookCase):
    def check_both(self, told, pattern):
        """The pattern has this text, and the text tells this pattern."""
        for given in (pattern, as_lists(pattern)):
            before = repr(given)
            self.assertEqual(printed_pattern(given), told)
            self.assertEqual(repr(given), before)
        self.check_parsed(told, pattern)

    def check_parsed(self, told, pattern):
        found = parse_pattern(told)
        self.assertEqual(found, pattern, told)
        self.assertTrue(is_plain(found))

    def check_bad_text(self, told, at):
        with self.assertRaises(BadPattern) as caught:
            parse_pattern(told)
        self.assertIs(type(caught.exception), BadPattern)
        self.assertEqual(caught.exception.at, at, told)
        self.assertIs(type(caught.exception.at), int)

    def check_as_told(self, told):
        """What the machine and the description of a pattern tell of the text."""
        pattern, at = grammar.scanned(told)
        if at is not None:
            self.check_bad_text(told, at)
        elif not reference.is_pattern(pattern):
            self.check_bad_text(told, 0)
        else:
            self.check_parsed(told, pattern)
            self.assertEqual(printed_pattern(pattern), told)
        return "good" if at is None and reference.is_pattern(pattern) else "unlike" if at is None else "bad"


class TestBothWays(TextCase):
    def test_samples(self):
        for told, pattern in SAMPLES.items():
            self.assertTrue(reference.is_pattern(pattern), told)
            self.assertEqual(grammar.printed(pattern), told)
            self.check_both(told, pattern)

    def test_patterns_of_the_books(self):
        for book in (OVERVIEW, RICH):
            for _, _, forms in book[1]:
                for _, pattern in forms:
                    self.check_both(grammar.printed(pattern), pattern)

    def test_every_sign(self):
        for sign in SIGNS:
            told = sign * 2 if sign in ";:" else sign
            if sign in "%{|}~\n":
                self.assertFalse(reference.is_pattern(text("a" + sign)))
                self.check_bad(0, printed_pattern, text("a" + sign))
                if sign in "%~\n}":
                    self.check_bad_text("a" + sign, 1)
            else:
                self.check_both("a" + told + "b", text("a" + sign + "b"))
                self.check_both("{n? other: " + told + "}", (("case", "n", (("other", text(sign)),)),))

    def test_every_key(self):
        for key in ["other", "o", "others", "oth", "abcdefgh"] + [f"={number}" for number in range(31)]:
            rest = () if key == "other" else (("other", ()),)
            told = f"{{n? {key}: a" + ("}" if key == "other" else "; other: }")
            self.check_both(told, (("case", "n", ((key, text("a")),) + rest),))

    def test_texts_side_by_side(self):
        # They are printed as one, and read as one.
        self.assertEqual(printed_pattern(text("a") + text("b")), "ab")
        self.assertEqual(printed_pattern(text("a;") + text(";b")), "a;;;;b")
        self.assertEqual(printed_pattern((("case", "n", (("other", text(":") + text(":")),)),)), "{n? other: ::::}")
        self.check_parsed("ab", text("ab"))
        self.check_parsed("a;;;;b", text("a;;b"))

    def test_bounds_of_patterns(self):
        # 8 pieces, 5 branches, 4 levels, 4 bindings.
        self.check_both("|" * 8, (MARK,) * 8)
        keys = ("a", "b", "c", "d", "other")
        self.check_both("{n? a: ; b: ; c: ; d: ; other: }", (("case", "n", tuple((key, ()) for key in keys)),))
        pattern, told = text("x"), "x"
        for _ in range(4):
            pattern, told = (("case", "n", (("other", pattern),)),), "{n? other: " + told + "}"
        self.check_both(told, pattern)
        pattern = tuple(("case", "n", tuple((key, pattern) for key in keys)) for _ in range(2))
        self.assertFalse(reference.is_pattern(pattern))
        wide = (("case", "n", tuple((key, (MARK,) * 8) for key in keys)),) * 8
        self.check_both(grammar.printed(wide), wide)

    def test_random_patterns(self):
        chance = random.Random(91)
        depths = set()
        for _ in range(400):
            pattern = random_pattern(chance, 0)
            told = grammar.printed(pattern)
            self.assertTrue(reference.is_pattern(pattern))
            depths.add(depth_of(pattern))
            self.check_both(told, pattern)
            self.assertEqual(grammar.scanned(told), (pattern, None))
        self.assertEqual(depths, set(range(5)))

    def test_random_forms(self):
        for book, name, tongue, _ in lawful_forms(random.Random(92), 150):
            pattern = reference.form_of(book, name, tongue)[1]
            told = printed_pattern(pattern)
            self.assertEqual(told, grammar.printed(pattern))
            self.check_as_told(told)

    def test_arguments_by_name(self):
        self.assertEqual(printed_pattern(pattern=[["mark"]]), "|")
        self.assertEqual(parse_pattern(text="|"), (MARK,))


class TestPrinted(TextCase):
    def test_what_is_no_pattern(self):
        for thing in (*OTHER_THINGS, "|", "{n}", OVERVIEW, RICH, (MARK, None), (("text", ""),), text("a" * 21),
                      (("text", "%"),), (("text", "|"),), (("text", "{"),), (("show", "other"),), MARK,
                      (("show", "abcdefghi"),), (MARK,) * 9, (("case", "n", ()),), (("case", "n", (("one", ()),)),)):
            if thing not in ((), []):
                self.check_bad(0, printed_pattern, thing)
                self.check_bad(0, printed_pattern, as_lists(thing) if isinstance(thing, tuple) else thing)
        deep = ()
        for _ in range(29):
            deep = (deep,)
        self.check_bad(0, printed_pattern, deep)
        five = text("x")
        for _ in range(5):
            five = (("case", "n", (("other", five),)),)
        self.check_bad(0, printed_pattern, five)
        self.check_bad(0, printed_pattern, text("a" * 5000))
        self.check_bad(0, printed_pattern, (MARK,) * 5000)

    def test_changed_patterns(self):
        pattern = SAMPLES["{@own s=s, w=who}{n? few: {n? =2: |; other: }; other:  ov}!"]
        counts = {True: 0, False: 0}
        for changed in changes(pattern):
            good = reference.is_pattern(changed)
            counts[good] += 1
            if good:
                self.assertEqual(printed_pattern(changed), grammar.printed(changed))
            else:
                self.check_bad(0, printed_pattern, changed)
        self.assertGreater(min(counts.values()), 50)


class TestParsed(TextCase):
    def test_lengths_of_texts(self):
        for many in (1, 19, 20, 21, 39, 40, 41, 60, 61, 159, 160):
            told = ("abcdefghij" * 16)[:many]
            pieces = tuple(("text", told[at:at + 20]) for at in range(0, many, 20))
            self.check_parsed(told, pieces)
            if many < 140:
                self.check_parsed("|" + told, (MARK,) + pieces)
            self.check_parsed("{n? other: " + told + "}", (("case", "n", (("other", pieces),)),))
        for many in (161, 180, 181, 5000):
            self.check_bad_text("a" * many, 0)
            self.check_bad_text("{n? other: " + "a" * min(many, 4988) + "}", 0)
        # A text begins anew behind a mark, a show and so on.
        self.check_parsed("a" * 19 + "|" + "b" * 20 + "{n}" + "c" * 21, (
            ("text", "a" * 19), MARK, ("text", "b" * 20), ("show", "n"), ("text", "c" * 20), ("text", "c")))

    def test_doubled_signs_count_once(self):
        for sign in ";:":
            for before in range(17, 23):
                for behind in (0, 1, 20):
                    told = "a" * before + sign * 2 + "b" * behind
                    whole = "a" * before + sign + "b" * behind
                    pieces = tuple(("text", whole[at:at + 20]) for at in range(0, len(whole), 20))
                    self.check_parsed(told, pieces)
                    self.check_parsed("{n? other: " + told + "}", (("case", "n", (("other", pieces),)),))
            self.check_parsed(sign * 40, (("text", sign * 20),))
            self.check_parsed(sign * 42, (("text", sign * 20), ("text", sign)))
            self.check_parsed(sign * 80, (("text", sign * 20),) * 2)
            self.check_parsed(sign * 82, (("text", sign * 20),) * 2 + (("text", sign),))
            self.check_bad_text(sign * 41, 40)

    def test_semicolons_and_colons_outside_of_branches(self):
        for sign in ";:":
            self.check_bad_text(sign, 0)
            self.check_bad_text("a" + sign, 1)
            self.check_bad_text("a" + sign + "b", 1)
            self.check_bad_text(sign + " other", 0)
            self.check_bad_text(sign * 3, 2)
            self.check_bad_text(sign * 3 + " ", 2)
            self.check_bad_text("{n}" + sign, 3)
            self.check_bad_text("{n? other: }" + sign, 12)
            self.check_bad_text("{n? other: }" + sign + " ", 12)
        self.check_bad_text(";:", 0)
        self.check_bad_text(":;", 0)
        self.check_bad_text("a:;;", 1)

    def test_semicolons_and_colons_in_branches(self):
        self.check_bad_text("{n? other: :", 11)
        self.check_bad_text("{n? other: :}", 11)
        self.check_bad_text("{n? other: a: }", 12)
        self.check_bad_text("{n? other: :::}", 13)
        # A semicolon ends the branch; what is wrong then is the sign behind it.
        self.check_bad_text("{n? one: ;", 10)
        self.check_bad_text("{n? one: ;}", 10)
        self.check_bad_text("{n? one: ;a", 10)
        self.check_bad_text("{n? one: ;:", 10)
        self.check_bad_text("{n? one: a;other: }", 11)
        self.check_bad_text("{n? one: a;;;", 13)
        self.check_bad_text("{n? one: a;;;}", 13)
        self.check_bad_text("{n? one: a; ", 12)
        self.check_bad_text("{n? one: a;  other: }", 12)
        self.check_bad_text("{n? one: a; }", 12)
        self.check_bad_text("{n? one: a; ;", 12)
        self.check_bad_text("{n? one: a;; other: b}", 18)
        self.check_bad_text("{n? one: {x? other: ;}; other: }", 21)
        # Behind a case in a branch the outer branch goes on.
        self.check_bad_text("{n? one: {x? other: a};", 23)
        self.check_bad_text("{n? one: {x? other: a}:", 22)

    def test_names_and_keys_sign_by_sign(self):
        for told, at in (
                ("{abcdefghi}", 9), ("{abcdefghi", 9), ("{abcdefgh", 9), ("{", 1), ("{}", 1), ("{ n}", 1), ("{N}", 1),
                ("{n", 2), ("{n ", 2), ("{n1}", 2), ("{1}", 1), ("{=1}", 1), ("{n;", 2), ("{n|", 2), ("{{", 1),
                ("{other}", 6), ("{other", 6), ("{other? other: }", 6), ("{othe", 5), ("{otherx", 7), ("{otherabcd}", 9),
                ("{n?", 3), ("{n?}", 3), ("{n?one: }", 3), ("{n?  one: }", 4), ("{n? }", 4), ("{n? ", 4), ("{n? :", 4),
                ("{n? One: }", 4), ("{n? one", 7), ("{n? one }", 7), ("{n? one:", 8), ("{n? one:}", 8), ("{n? one:a}", 8),
                ("{n? one::", 8), ("{n? one: ", 9), ("{n? abcdefgh: ", 14), ("{n? abcdefghi: ", 12), ("{n? one1: ", 7),
                ("{n? =", 5), ("{n? =:", 5), ("{n? =a", 5), ("{n? = ", 5), ("{n? =-1", 5), ("{n? ==1", 5), ("{n? =0", 6),
                ("{n? =00: }", 6), ("{n? =07: }", 6), ("{n? =31: }", 6), ("{n? =30", 7), ("{n? =300: }", 7), ("{n? =3a", 6),
                ("{n? =40: }", 6), ("{n? =99: }", 6), ("{n? =123: }", 7), ("{n? =29: ", 9), ("{n? =2 ", 6), ("{n? 1: ", 4),
                ("{n? other", 9), ("{n? other}", 9), ("{n? othera: ", 12), ("{n? otherabcd: ", 12),
                ("{@", 2), ("{@}", 2), ("{@ ", 2), ("{@other}", 7), ("{@other", 7), ("{@name", 6), ("{@abcdefghi}", 10),
                ("{@name ", 7), ("{@name }", 7), ("{@name  a=b}", 7), ("{@name,a=b}", 6), ("{@name?", 6), ("{@Name}", 2),
                ("{@name a", 8), ("{@name a}", 8), ("{@name a =b}", 8), ("{@name a=", 9), ("{@name a=}", 9),
                ("{@name a= b}", 9), ("{@name a==b}", 9), ("{@name other=b}", 12), ("{@name a=other}", 14),
                ("{@name a=:other}", 15), ("{@name a=:", 10), ("{@name a=:}", 10), ("{@name a=::b}", 10), ("{@name a=b", 10),
                ("{@name a=b ", 10), ("{@name a=b,", 11), ("{@name a=b,c=d}", 11), ("{@name a=b, ", 12), ("{@name a=b, }", 12),
                ("{@name a=b,  c=d}", 12), ("{@name a=b; c=d}", 10), ("{@name a=abcdefghi}", 17), ("{@name a=:abcdefghi}", 18),
                ("{@name abcdefghi=a}", 15), ("{@name a=b, c", 13), ("{@name a=1}", 9), ("{@name a=:1}", 10), ("{@1", 2),
                ("}", 0), ("a}", 1), ("{n}}", 3), ("{n? other: }}", 12), ("{n? other: {n}", 14), ("{n? other: {n", 13),
                ("{n? other: a|{x? a: ", 20), ("\n", 0), ("a\n", 1), ("~", 0), ("a%", 1), ("{n? other: ~}", 11),
                ("{n? other: \n}", 11), ("{n? other: {m? other: a}", 24)):
            self.check_bad_text(told, at)
            self.assertEqual(grammar.scanned(told), (None, at), told)

    def test_braces_that_are_not_closed(self):
        for told in SAMPLES:
            for at, sign in enumerate(told):
                if sign == "{":
                    rest = told[at:]
                    closing = [end for end in range(1, len(rest)) if grammar.scanned(rest[:end + 1])[1] is None]
                    self.check_bad_text(rest[:closing[0]], closing[0])

    def test_what_the_grammar_allows_but_is_no_pattern(self):
        for told in (
                "|" * 9, "{n}" * 9, "a|" * 5, "a" * 161, "{n? other: " + "|" * 9 + "}", "{n? a: " + "|" * 9 + "; other: }",
                "{n? a: ; b: ; c: ; d: ; e: ; other: }", "{n? a: ; a: ; other: }", "{n? =1: ; =1: ; other: }",
                "{n? other: ; other: }", "{n? a: }", "{n? a: ; b: }", "{n? =1: }", "{n? other: ; a: }",
                "{n? other: ; a: ; other: }", "{@a b=c, b=c, b=c, b=c, b=c}", "{n? other: " * 5 + "}" * 5,
                "{n? other: {n? a: }}", "|{n? a: }|", "{n? =0: ; other: ; =1: }"):
            self.check_bad_text(told, 0)
            self.assertEqual(grammar.scanned(told)[1], None, told)
            # A sign that does not go on is told first, even behind that.
            self.check_bad_text(told + "}", len(told))
            self.check_bad_text(told + "{", len(told) + 1)
            self.check_bad_text(told + ":", len(told))
        for key, good in (("other", True), ("a", False), ("others", False), ("=0", False)):
            self.assertEqual(self.check_as_told("{n? " + key + ": }"), "good" if good else "unlike")

    def test_what_is_no_string(self):
        for thing in NO_TEXTS:
            self.check_bad_text(thing, 0)
        self.check_bad_text((MARK,), 0)
        self.check_bad_text(["|"], 0)

    def test_one_sign_away(self):
        counts = {}
        signs = "an1 ;:|{}@?=,.%~\n0"
        for told in SAMPLES:
            changed = {told[:at] for at in range(len(told))}
            for at in range(len(told) + 1):
                changed.add(told[:at] + told[at + 1:])
                changed.add(told[:at] + told[at:at + 1] * 2 + told[at + 1:])
                changed.add(told[:at] + told[at + 1:at + 2] + told[at:at + 1] + told[at + 2:])
                for sign in signs:
                    changed.add(told[:at] + sign + told[at:])
                    changed.add(told[:at] + sign + told[at + 1:])
            for other in sorted(changed):
                kind = self.check_as_told(other)
                counts[kind] = counts.get(kind, 0) + 1
        for kind, least in (("good", 1000), ("unlike", 100), ("bad", 1000)):
            self.assertGreater(counts[kind], least, counts)

    def test_random_texts(self):
        chance = random.Random(93)
        parts = ["{n", "?", " ", "other", ": ", "; ", "}", "{@a", "=", "b", ":", ";", "|", "{n? a: ", "; other: ", "=1",
                 ";;", "::", ", ", "{x}", "x"]
        counts = {}
        for _ in range(6000):
            told = "".join(chance.choices(parts, k=chance.randint(1, 9)))
            kind = self.check_as_told(told)
            counts[kind] = counts.get(kind, 0) + 1
        for kind in ("good", "unlike", "bad"):
            self.assertGreater(counts[kind], 9, counts)

    def test_texts_of_5000_signs(self):
        cases = 5000 // len("{n? a: }")
        for told, at in (
                ("a" * 5000, 0), ("|" * 5000, 0), (";" * 5000, 0), ("a" * 4999 + "}", 4999), ("{n}" * 1666, 0),
                ("{n? a: " * 714, 4998), ("{n? a: " * cases + "}" * cases, 0), ("{" * 5000, 1), (":" * 4999, 4998),
                ("{n? a: " + "a: " * 1000, 8), ("{n? a: " + "; a: " * 998, 4997), ("{n? a: " + "; a: " * 998 + "}", 0),
                ("{@a " + "a=b, " * 998, 4994), ("{@a " + "a=b, " * 998 + "a=b}", 0), ("{n? a: " * 714 + "}}", 5000)):
            self.assertLessEqual(len(told), 5000)
            self.check_bad_text(told, at)
            self.assertIn(grammar.scanned(told)[1], (at, None))
        keys = ("a", "b", "c", "d", "other")
        row = (MARK,) + text("a" * 20) + (MARK,) + text("b" * 20) + (MARK,) + text("c" * 20) + (MARK,) + text("d")
        wide = (("case", "n", tuple((key, row) for key in keys)),) * 8
        told = grammar.printed(wide)
        self.assertGreater(len(told), 2500)
        self.check_both(told, wide)


NAMES = ("n", "a", "ann", "others", "oth", "abcdefgh", "x")
KEYS = NAMES + ("=0", "=1", "=9", "=10", "=29", "=30")


def random_pattern(chance, depth):
    """A pattern of any kind in which no two texts stand side by side."""
    pieces = []
    for _ in range(chance.choice((0, 1, 2, 3, 8)) if depth else chance.randint(1, 8)):
        word = chance.choice(("text", "mark", "show", "case", "case", "term"))
        if word == "case" and depth == 4 or word == "text" and pieces and pieces[-1][0] == "text":
            word = "mark"
        pieces.append({
            "text": lambda: ("text", "".join(chance.choices("ab;: .=?@,z", k=chance.choice((1, 2, 19, 20))))),
            "mark": lambda: MARK,
            "show": lambda: ("show", chance.choice(NAMES)),
            "case": lambda: random_case(chance, depth),
            "term": lambda: ("term", chance.choice(NAMES), tuple(
                (chance.choice(NAMES), (chance.choice(("argument", "option")), chance.choice(NAMES)))
                for _ in range(chance.randint(0, 4)))),
        }[word]())
        if depth > 1 and word == "case":
            break
    return tuple(pieces)


def random_case(chance, depth):
    keys = chance.sample(KEYS, chance.choice((0, 1, 1, 2, 4) if depth == 0 else (0, 1))) + ["other"]
    return ("case", chance.choice(NAMES), tuple((key, random_pattern(chance, depth + 1)) for key in keys))


def depth_of(pattern):
    return max([1 + depth_of(row[1]) for piece in pattern if piece[0] == "case" for row in piece[2]], default=0)


if __name__ == "__main__":
    unittest.main()
