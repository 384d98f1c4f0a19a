"""The gaps of a pattern, and marks in them ([33], [34])."""

from readhome.words import are_different, frozen, is_integer, is_row


def gaps_in(pattern, path):
    """The gaps of the pattern at the path, and those in its branches, ascending."""
    found = [path + (at,) for at in range(1, len(pattern))]
    for at, piece in enumerate(pattern):
        if piece[0] == "case":
            for number, branch in enumerate(piece[2]):
                found.extend(gaps_in(branch[1], path + (at, number)))
    return sorted(found)


def patterns_in(pattern):
    """The pattern and those in its branches."""
    found = [pattern]
    for piece in pattern:
        if piece[0] == "case":
            for branch in piece[2]:
                found.extend(patterns_in(branch[1]))
    return found


def are_among(gaps, value):
    """Whether value is a sequence of different ones of the gaps."""
    if not is_row(value, 0, len(gaps)) or not all([is_among(gaps, gap) for gap in value]):
        return False
    return are_different(frozen(value))


def is_among(gaps, value):
    """Whether value is one of the gaps."""
    # True is no integer, but Python takes it for 1.
    if not isinstance(value, (list, tuple)) or not all([is_integer(at) for at in value]):
        return False
    return tuple(value) in gaps


def sets_of(gaps):
    """All sets of the gaps, as ascending tuples: those with fewer members first, then in order."""
    found = [()]
    for gap in gaps:
        found = found + [before + (gap,) for before in found]
    return sorted(found, key=lambda chosen: (len(chosen), chosen))


def with_marks(pattern, path, chosen):
    """The pattern at the path with a mark in each of the chosen gaps."""
    pieces = []
    for at, piece in enumerate(pattern):
        if path + (at,) in chosen:
            pieces.append(("mark",))
        pieces.append(case_with_marks(piece, path + (at,), chosen) if piece[0] == "case" else piece)
    return tuple(pieces)


def case_with_marks(piece, path, chosen):
    """The case at the path with a mark in each of the chosen gaps of its branches."""
    branches = [
        (key, with_marks(pattern, path + (number,), chosen))
        for number, (key, pattern) in enumerate(piece[2])
    ]
    return ("case", piece[1], tuple(branches))
