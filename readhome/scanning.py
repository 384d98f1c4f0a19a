"""Reading the text of a pattern sign by sign ([42])."""

from readhome.errors import BadPattern
from readhome.patterns import is_sign
from readhome.words import is_key, is_key_number, is_name

MOST_LETTERS = 8
MOST_SIGNS = 20


class Scanner:
    """A text that is gone over sign by sign."""

    def __init__(self, text):
        self.text = text
        self.at = 0

    def sign(self):
        """The sign that comes next; "" at the end."""
        return self.text[self.at:self.at + 1]

    def is_doubled(self):
        """Whether the sign that comes next comes twice."""
        return self.text[self.at + 1:self.at + 2] == self.sign()

    def skip(self, sign):
        """Go over the sign, which is the only one that may come."""
        if self.sign() != sign:
            raise BadPattern(self.at)
        self.at += 1

    def read_word(self):
        """Go over lowercase letters, as many as a name or a key may have."""
        start = self.at
        while self.at < start + MOST_LETTERS and "a" <= self.sign() <= "z":
            self.at += 1
        return self.text[start:self.at]

    def read_name(self):
        """Go over a name."""
        name = self.read_word()
        if not is_name(name):
            raise BadPattern(self.at)
        return name

    def read_key(self):
        """Go over a key."""
        key = self.read_number_key() if self.sign() == "=" else self.read_word()
        if not is_key(key):
            raise BadPattern(self.at)
        return key

    def read_number_key(self):
        """Go over a sign `=` and the digits behind it, as far as they are a number of a key."""
        self.skip("=")
        digits = ""
        while self.sign() != "" and is_key_number(digits + self.sign()):
            digits += self.sign()
            self.at += 1
        return "=" + digits

    def read_text_sign(self):
        """Go over a sign of a text; one that is doubled counts once."""
        sign = self.sign()
        if sign == "" or not is_sign(sign) or sign in (";", ":") and not self.is_doubled():
            raise BadPattern(self.at)
        self.at += 2 if sign in (";", ":") else 1
        return sign


class Level:
    """A pattern that is being read: the outermost one, or one in a branch of a case."""

    def __init__(self, argument):
        self.pieces = []
        # The argument of the case, the branches that are read, and the key of this one.
        self.argument = argument
        self.branches = []
        self.key = ""

    def end_branch(self):
        """Add the branch that has been read."""
        self.branches.append((self.key, tuple(self.pieces)))
        self.pieces = []


def scanned(text):
    """The pattern that the text tells by the grammar alone, with as much of all as there is."""
    scanner = Scanner(text)
    # The levels are kept here, as a text may have more of them than functions may call themselves.
    levels = [Level("")]
    while len(levels) > 1 or scanner.sign() != "":
        scan_next(scanner, levels)
    return tuple(levels[0].pieces)


def scan_next(scanner, levels):
    """Go over a piece, or what ends a branch or begins one; a text goes sign by sign."""
    sign = scanner.sign()
    level = levels[-1]
    if sign == "|":
        scanner.skip(sign)
        level.pieces.append(("mark",))
    elif sign == "{":
        scan_braces(scanner, levels)
    elif sign == "}" and len(levels) > 1:
        scanner.skip(sign)
        level.end_branch()
        levels.pop()
        levels[-1].pieces.append(("case", level.argument, tuple(level.branches)))
    elif sign == ";" and len(levels) > 1 and not scanner.is_doubled():
        scanner.skip(sign)
        level.end_branch()
        scan_key(scanner, level)
    else:
        add_text_sign(level.pieces, scanner.read_text_sign())


def add_text_sign(pieces, sign):
    """Add the sign to the text at the end of the pieces, or to a new one."""
    if pieces and pieces[-1][0] == "text" and len(pieces[-1][1]) < MOST_SIGNS:
        pieces[-1] = ("text", pieces[-1][1] + sign)
    else:
        pieces.append(("text", sign))


def scan_braces(scanner, levels):
    """Go over a show, a term, or a case as far as to its first pattern."""
    scanner.skip("{")
    if scanner.sign() == "@":
        levels[-1].pieces.append(scanned_term(scanner))
        return
    name = scanner.read_name()
    if scanner.sign() == "?":
        scanner.skip("?")
        levels.append(Level(name))
        scan_key(scanner, levels[-1])
    else:
        scanner.skip("}")
        levels[-1].pieces.append(("show", name))


def scan_key(scanner, level):
    """Go over the key of a branch, as far as to its pattern."""
    scanner.skip(" ")
    level.key = scanner.read_key()
    scanner.skip(":")
    scanner.skip(" ")


def scanned_term(scanner):
    """Go over a term, from its `@` on, and tell it."""
    scanner.skip("@")
    name = scanner.read_name()
    bindings = []
    if scanner.sign() == " ":
        bindings.append(scanned_binding(scanner))
        while scanner.sign() == ",":
            scanner.skip(",")
            bindings.append(scanned_binding(scanner))
    scanner.skip("}")
    return ("term", name, tuple(bindings))


def scanned_binding(scanner):
    """Go over a binding and the space before it, and tell it."""
    scanner.skip(" ")
    argument = scanner.read_name()
    scanner.skip("=")
    if scanner.sign() == ":":
        scanner.skip(":")
        return (argument, ("option", scanner.read_name()))
    return (argument, ("argument", scanner.read_name()))
