"""Ways as nets of places: where a text that is read sign by sign may lead to.

A place is a number. A place in front of fixed signs has the rest of them, and each of them leads
to the next place. A place in a slot has moves instead: the places to which each sign may lead,
those within the slot and, if a value may end with the sign, the one behind it. So two readings of
a text on one way show the same values just if they go over the same places.
"""

from readhome.lookup import NUMBERS
from readhome.words import DIGITS, LETTERS

# A number of which these are the first digits, or more, is 40 or more with its next digit, and
# from 40 on only the last digit counts.
HIGH = 4


class Net:
    """The places of several ways."""

    def __init__(self):
        # For each place: the rest of the fixed signs, or "", and the moves, by the sign.
        self.rests = []
        self.moves = []
        # For each place a number of signs without which no text goes from there to the end.
        self.needs = []
        # The places behind the last piece of a way.
        self.last_places = {}

    def add_way(self, fixed, limits):
        """Add the places of a way with these fixed texts and limits of its slots; the first."""
        first = len(self.rests)
        need = sum([len(part) for part in fixed]) + len(limits)
        for at, part in enumerate(fixed):
            if at > 0:
                self.add_slot(limits[at - 1], need)
                need -= 1
            for start in range(len(part)):
                self.add_place(part[start:], {}, need)
                need -= 1
        self.last_places[len(self.rests)] = True
        self.add_place("", {}, 0)
        return first

    def add_slot(self, limit, need):
        """Add the places of a slot that shows a value within the limit."""
        first = len(self.rests)
        if limit is None:
            # With each letter a word may go on or end.
            self.add_place("", {letter: (first, first + 1) for letter in LETTERS}, need)
        else:
            for moves in number_moves(limit, first):
                self.add_place("", moves, need)

    def add_place(self, rest, moves, need):
        """Add a place."""
        self.rests.append(rest)
        self.moves.append(moves)
        self.needs.append(need)

    def next_places(self, place, sign):
        """The places to which the sign may lead, ascending."""
        rest = self.rests[place]
        if rest:
            return (place + 1,) if rest[0] == sign else ()
        return self.moves[place].get(sign, ())

    def next_signs(self, one, other):
        """The signs, ascending, by which both places may be left; perhaps some more."""
        rest = self.rests[one] or self.rests[other]
        return [rest[0]] if rest else list(self.moves[one])


def number_moves(numbers, first):
    """The moves of the places of a slot that shows one of the numbers, the first being first.

    Behind the first there is a place for each set of digits with which a number may end next.
    """
    high = next_digits(numbers, HIGH)
    # What may end a number that begins with 1, 2, 3, and with 4 or more.
    ending = [next_digits(numbers, start) for start in range(1, HIGH + 1)]
    places = {}
    for digits in ending:
        if digits not in places and (digits or high):
            places[digits] = first + 1 + len(places)
    behind = first + 1 + len(places)
    # No number goes on behind the digit 0 at its beginning.
    following = [None] + ending + [high] * (len(DIGITS) - len(ending) - 1)
    rows = [digit_moves(following, numbers, places, behind)]
    for digits in list(places):
        rows.append(digit_moves([high] * len(DIGITS), digits, places, behind))
    return rows


def next_digits(numbers, start):
    """The digits, as bits, with which a number may end that begins with start and has one more."""
    least = 10 * start if start < HIGH else NUMBERS - 10
    return numbers >> least & ((1 << 10) - 1)


def digit_moves(following, ending, places, behind):
    """The moves of a place in a number.

    following tells for each digit what may end the number next, ending which digits may end it
    now, as bits.
    """
    moves = {}
    for at, digit in enumerate(DIGITS):
        found = []
        if following[at] in places:
            found.append(places[following[at]])
        if ending >> at & 1:
            found.append(behind)
        if found:
            moves[digit] = tuple(found)
    return moves
