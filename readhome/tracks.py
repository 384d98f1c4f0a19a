"""The ways through a form, each with what its limits and its texts come to ([21], [22])."""

from readhome.lookup import stand_in
from readhome.paths import paths_of
from readhome.runs import runs_of
from readhome.words import MARK_SIGN


class Way:
    """A way through a form of a message."""

    def __init__(self, limits, pieces, slots):
        # For each argument: numbers as bits, a tuple of options, or None for any word.
        self.limits = limits
        self.pieces = pieces
        # The number of the argument that each slot shows, and its limit.
        self.slots = slots
        self.slot_limits = [limits[at] for at in slots]
        # The signs before the first slot, between any two, and behind the last.
        self.fixed = fixed_signs(pieces)
        self.runs = runs_of(self.fixed, self.slot_limits)

    def has(self, values):
        """Whether the value of the message takes this way."""
        return all([is_in_limit(limit, value) for limit, value in zip(self.limits, values)])

    def hides_values(self):
        """Whether two values of this way differ only in what it does not show."""
        return any([
            at not in self.slots and is_wide(limit) for at, limit in enumerate(self.limits)
        ])


class Voice:
    """A message in a tongue."""

    def __init__(self, lookup, name, tongue):
        self.arguments = lookup.arguments[name]
        self.ways = ways_of(lookup, name, tongue)


def ways_of(lookup, name, tongue):
    """The ways of the message in the tongue, in their order."""
    names = [argument for argument, _ in lookup.arguments[name]]
    found = []
    for limits, steps in paths_of(lookup, name, tongue):
        pieces = joined(steps)
        slots = [names.index(piece[1]) for piece in pieces if piece[0] == "show"]
        found.append(Way([limits[argument] for argument in names], pieces, slots))
    return found


def joined(steps):
    """The pieces of the steps: without terms, and with texts side by side made one."""
    pieces = []
    for step in steps:
        if step[0] == "text" and pieces and pieces[-1][0] == "text":
            pieces[-1] = ("text", pieces[-1][1] + step[1])
        elif step[0] != "term":
            pieces.append(step)
    return tuple(pieces)


def fixed_signs(pieces):
    """The signs before, between and behind the shows among the pieces: one text more than shows."""
    fixed = [""]
    for piece in pieces:
        if piece[0] == "show":
            fixed.append("")
        else:
            fixed[-1] += piece[1] if piece[0] == "text" else MARK_SIGN
    return fixed


def is_in_limit(limit, value):
    """Whether a value of an argument is within its limit."""
    if limit is None:
        return True
    if isinstance(limit, int):
        return limit >> stand_in(value) & 1 == 1
    return value in limit


def is_wide(limit):
    """Whether more than one value is within the limit."""
    if limit is None:
        return True
    if isinstance(limit, int):
        return limit & (limit - 1) != 0
    return len(limit) > 1
