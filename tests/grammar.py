"""The text of a pattern told once more: printed by pieces, read by a machine that takes one sign
after the other and knows its state by name.
"""

import itertools

LETTERS = "abcdefghijklmnopqrstuvwxyz"
NUMBERS = [str(number) for number in range(31)]
TEXT_SIGNS = [chr(code) for code in range(32, 123) if chr(code) not in "%;:"]


def printed(pattern):
    """What `printed_pattern` should return."""
    return "".join(map(printed_piece, pattern))


def printed_piece(piece):
    word = piece[0]
    if word == "text":
        return "".join(sign * 2 if sign in ";:" else sign for sign in piece[1])
    if word == "mark":
        return "|"
    if word == "show":
        return f"{{{piece[1]}}}"
    if word == "case":
        return f"{{{piece[1]}? " + "; ".join(f"{key}: {printed(inner)}" for key, inner in piece[2]) + "}"
    rows = [f"{name}={':' * (source[0] == 'option')}{source[1]}" for name, source in piece[2]]
    return "{@" + " ".join([piece[1], ", ".join(rows)] if rows else [piece[1]]) + "}"


def is_name(word):
    return word != "" and word != "other"


class Machine:
    """Takes a text sign by sign; each state is a method that tells whether the sign goes on."""

    def __init__(self):
        self.state = self.in_pattern
        self.word = ""
        self.back = 0
        # The patterns that are open, each with the row (argument, branches, key) of its case.
        self.open = [[None, []]]

    def pieces(self):
        return self.open[-1][1]

    def go(self, state, word=""):
        self.state = state
        self.word = word
        return True

    def add(self, piece):
        self.pieces().append(piece)
        return self.go(self.in_pattern)

    def longer(self, sign):
        """A further letter of a name or key."""
        if sign not in LETTERS or len(self.word) == 8:
            return False
        self.word += sign
        return True

    def in_pattern(self, sign):
        within = len(self.open) > 1
        if sign == "{":
            return self.go(self.in_braces)
        if sign == "|":
            return self.add(("mark",))
        if sign == "}" and within:
            return self.close()
        if sign in ";:":
            return self.go(self.after_semicolon if sign == ";" else self.after_colon)
        return sign in TEXT_SIGNS and self.add(sign)

    def after_semicolon(self, sign):
        if sign == ";":
            return self.add(";")
        if len(self.open) == 1:
            self.back = 1
            return False
        self.end_branch()
        return sign == " " and self.go(self.in_key)

    def after_colon(self, sign):
        self.back = 1
        return sign == ":" and self.add(":")

    def end_branch(self):
        row, pieces = self.open[-1]
        row[1].append((row[2], joined(pieces)))
        self.open[-1] = [row, []]

    def close(self):
        self.end_branch()
        row, _ = self.open.pop()
        return self.add(("case", row[0], tuple(row[1])))

    def in_braces(self, sign):
        if sign == "@":
            return self.go(self.in_term)
        return sign in LETTERS and self.go(self.in_name, sign)

    def in_name(self, sign):
        if sign == "}" and is_name(self.word):
            return self.add(("show", self.word))
        if sign == "?" and is_name(self.word):
            self.open.append([[self.word, [], ""], []])
            return self.go(self.before_key)
        return self.longer(sign)

    def before_key(self, sign):
        return sign == " " and self.go(self.in_key)

    def in_key(self, sign):
        whole = self.word[1:] in NUMBERS if self.word[:1] == "=" else self.word != ""
        if sign == ":" and whole:
            self.open[-1][0][2] = self.word
            return self.go(self.behind_key)
        if self.word == "" and sign == "=":
            return self.go(self.in_key, "=")
        if self.word[:1] == "=":
            return self.word[1:] + sign in NUMBERS and self.go(self.in_key, self.word + sign)
        return self.longer(sign)

    def behind_key(self, sign):
        return sign == " " and self.go(self.in_pattern)

    def in_term(self, sign):
        if sign in " }" and is_name(self.word):
            self.term = [self.word, []]
            return self.go(self.in_binding) if sign == " " else self.end_term()
        return self.longer(sign)

    def end_term(self):
        return self.add(("term", self.term[0], tuple(self.term[1])))

    def in_binding(self, sign):
        if sign == "=" and is_name(self.word):
            self.binding = [self.word, "argument"]
            return self.go(self.before_source)
        return self.longer(sign)

    def before_source(self, sign):
        if sign == ":":
            self.binding[1] = "option"
            return self.go(self.in_source)
        return sign in LETTERS and self.go(self.in_source, sign)

    def in_source(self, sign):
        if sign in ",}" and is_name(self.word):
            self.term[1].append((self.binding[0], (self.binding[1], self.word)))
            return self.go(self.after_comma) if sign == "," else self.end_term()
        return self.longer(sign)

    def after_comma(self, sign):
        return sign == " " and self.go(self.in_binding)


def joined(pieces):
    """The pieces with the signs of texts made texts of at most 20 signs."""
    found = []
    for is_sign, group in itertools.groupby(pieces, key=lambda piece: isinstance(piece, str)):
        group = list(group)
        if is_sign:
            group = [("text", "".join(group[at:at + 20])) for at in range(0, len(group), 20)]
        found.extend(group)
    return tuple(found)


def scanned(text):
    """The pair of the pattern and None, or of None and the position of what does not go on."""
    machine = Machine()
    for at, sign in enumerate(text):
        if not machine.state(sign):
            return None, at - machine.back
        machine.back = 0
    if len(machine.open) > 1 or machine.state != machine.in_pattern:
        early = machine.state == machine.after_colon or (
            machine.state == machine.after_semicolon and len(machine.open) == 1)
        return None, len(text) - early
    return joined(machine.pieces()), None
