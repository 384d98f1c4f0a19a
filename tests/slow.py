"""Ways, readings, clashes and shared texts told once more, slowly and from the document alone.

Ways are found by trying all values, readings by trying all parts of the text as values, clashes
and shared texts by reading all texts sign by sign on two ways at once.
"""

import functools
import itertools

from tests import reference

LETTERS = "abcdefghijklmnopqrstuvwxyz"
DIGITS = "0123456789"


def stand_in(number):
    """The number below 60 that stands for the number."""
    while number >= 60:
        number = 50 + number % 10
    return number


def arguments_of(book, name):
    return {row[0]: row[1] for row in book[1]}[name]


@functools.lru_cache(maxsize=64)
def ways(book, name, tongue):
    """What `ways` should return; book is a book of tuples."""
    arguments = arguments_of(book, name)
    home, pattern = reference.form_of(book, name, tongue)
    taken = {}
    for values in reference.values_of(arguments, 60):
        held = {row[0]: (value, row[0]) for row, value in zip(arguments, values)}
        steps = list(reference.met(book, home, pattern, held))
        branches = tuple(number for word, number in steps if word == "branch")
        taken.setdefault(branches, (steps, []))[1].append(values)
    found = []
    for branches in sorted(taken):
        steps, group = taken[branches]
        limits = []
        for at, (_, kind) in enumerate(arguments):
            every = range(60) if kind[0] == "number" else kind[1] if kind[0] == "choice" else ()
            its = {values[at] for values in group}
            limits.append(None if kind[0] == "word" else tuple(x for x in every if x in its))
        found.append((tuple(limits), pieces_of(steps)))
    return tuple(found)


def pieces_of(steps):
    pieces = []
    for word, group in itertools.groupby(
            [step for step in steps if step[0] not in ("branch", "term")], key=lambda step: step[0]):
        if word == "text":
            pieces.append(("text", "".join(string for _, string in group)))
        else:
            pieces.extend(step if word == "show" else ("mark",) for step in group)
    return tuple(pieces)


def is_within(limits, values):
    return all(limit is None or (stand_in(value) if type(value) is int else value) in limit
               for limit, value in zip(limits, values))


def shown(pieces, arguments, values):
    """What the pieces say with the arguments shown."""
    told = {row[0]: str(value) for row, value in zip(arguments, values)}
    return "".join("|" if piece[0] == "mark" else piece[1] if piece[0] == "text" else told[piece[1]]
                   for piece in pieces)


def order(arguments):
    """The key by which values of a message are ordered."""
    def key(values):
        found = []
        for (_, kind), value in zip(arguments, values):
            if kind[0] == "number":
                found.append((value,))
            elif kind[0] == "word":
                found.append((len(value), value))
            else:
                found.append((kind[1].index(value),))
        return found
    return key


def readings(book, name, tongue, text, limit):
    """What `readings` should return; for hidden numbers, of those that 140 and 20 letters give."""
    arguments = arguments_of(book, name)
    parts = {text[low:high] for low in range(len(text)) for high in range(low + 1, len(text) + 1)}
    found = []
    for limits, pieces in ways(book, name, tongue):
        shows = [piece[1] for piece in pieces if piece[0] == "show"]
        every = []
        for (argument, kind), its in zip(arguments, limits):
            if kind[0] == "choice":
                every.append(its)
            elif kind[0] == "number" and argument not in shows:
                every.append([number for number in range(140) if stand_in(number) in its][:limit])
            elif kind[0] == "number":
                every.append([int(part) for part in parts if part.isdigit() and part.isascii()
                              and str(int(part)) == part and stand_in(int(part)) in its])
            elif argument in shows:
                every.append([part for part in parts if set(part) <= set(LETTERS)])
            else:
                every.append(LETTERS[:limit])
        for values in itertools.product(*every):
            if shown(pieces, arguments, values) == text:
                assert reference.say(book, name, tongue, values) == text
                found.append(values)
    return tuple(sorted(found, key=order(arguments))[:limit])


class Reader:
    """Reads texts on all ways; a state is (way, piece, what was read of the piece)."""

    def __init__(self, book, name, tongue):
        self.arguments = arguments_of(book, name)
        self.kinds = dict(self.arguments)
        self.ways = ways(book, name, tongue)

    def text_signs(self):
        """All signs of the texts."""
        return {sign for _, pieces in self.ways for piece in pieces if piece[0] == "text" for sign in piece[1]}

    def begin(self, way):
        """The states before the first sign is read on the way."""
        return self.closure((way, 0, ""))

    def limit(self, way, argument):
        at = [row[0] for row in self.arguments].index(argument)
        return self.ways[way][0][at]

    def hides(self, way):
        limits, pieces = self.ways[way]
        shows = [piece[1] for piece in pieces if piece[0] == "show"]
        return any((its is None or len(its) > 1) and argument not in shows
                   for (argument, _), its in zip(self.arguments, limits))

    def is_end(self, state):
        way, piece, _ = state
        return piece == len(self.ways[way][1])

    def may_end(self, way, piece, read):
        if piece[0] == "show" and self.kinds[piece[1]][0] == "number":
            return read != "" and stand_in(int(read)) in self.limit(way, piece[1])
        return read == {"mark": "|", "text": piece[-1], "show": "w"}[piece[0]]

    def closure(self, state):
        """The state and those in which pieces that may be over are over."""
        found = [state]
        way, at, read = state
        if not self.is_end(state) and self.may_end(way, self.ways[way][1][at], read):
            found += self.closure((way, at + 1, ""))
        return found

    def after(self, state, sign):
        """The states to which a sign may lead."""
        if self.is_end(state):
            return []
        way, at, read = state
        piece = self.ways[way][1][at]
        if piece[0] != "show":
            whole = "|" if piece[0] == "mark" else piece[1]
            goes = whole.startswith(read + sign)
            longer = read + sign
        elif self.kinds[piece[1]][0] == "word":
            goes, longer = sign in LETTERS, "w"
        else:
            goes = sign in DIGITS and read != "0"
            longer = str(stand_in(int(read + sign))) if goes else ""
        return self.closure((way, at, longer)) if goes else []

    def clash_text(self, most):
        """The text of `clash`, or None if there is none of at most so many signs."""
        level = []
        for one in range(len(self.ways)):
            for other in range(one, len(self.ways)):
                parted = one != other or self.hides(one)
                for first in self.begin(one):
                    for second in self.begin(other):
                        level.append((first, second, parted or first != second))
        groups = [("", set(level))]
        seen = set(level)
        signs = signs_for(self.text_signs())
        for _ in range(most + 1):
            following = []
            for text, states in groups:
                if any(parted and self.is_end(one) and self.is_end(other)
                       for one, other, parted in states):
                    return text
                for sign in signs:
                    met = set()
                    for one, other, parted in states:
                        for first in self.after(one, sign):
                            for second in self.after(other, sign):
                                met.add((first, second, parted or first != second))
                    met -= seen
                    seen |= met
                    if met:
                        following.append((text + sign, met))
            groups = following
        return None


def signs_for(texts):
    """Signs that stand for all: letters that no text has are alike, so the least is enough."""
    signs = set("|" + DIGITS) | texts
    return sorted(signs | {min(set(LETTERS) - signs, default="a")})


def shared_text(book, one, other, tongue, most):
    """The text of `shared`, or None if there is none of at most so many signs."""
    first, second = Reader(book, one, tongue), Reader(book, other, tongue)
    starts = [[state for way in range(len(reader.ways)) for state in reader.begin(way)]
              for reader in (first, second)]
    groups = [("", set(itertools.product(*starts)))]
    seen = set(groups[0][1])
    signs = signs_for(first.text_signs() | second.text_signs())
    for _ in range(most + 1):
        following = []
        for text, states in groups:
            if any(first.is_end(here) and second.is_end(there) for here, there in states):
                return text
            for sign in signs:
                met = {pair for here, there in states for pair in itertools.product(
                    first.after(here, sign), second.after(there, sign))} - seen
                seen |= met
                if met:
                    following.append((text + sign, met))
        groups = following
    return None


def clash(book, name, tongue, most):
    """What `clash` should return, if no text of more than so many signs is needed for it."""
    text = Reader(book, name, tongue).clash_text(most)
    if text is None:
        return None
    first, second = readings(book, name, tongue, text, 2)
    return (text, first, second)
