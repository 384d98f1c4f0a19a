"""Runs: the stretches of a way that are letters and words, digits and numbers, or other signs.

Words are letters and numbers are digits, so a text falls into the same runs on every way that says
it. Two ways have a text in common just if they have as many runs and each run has one in common with
its fellow; and two readings of a text on one way differ within one of the runs.
"""


def runs_of(fixed, limits):
    """The runs of a way with these fixed texts and limits of the slots between them.

    Each is a pair of the same kind: fixed texts, and limits of the slots between them.
    """
    runs = []
    before = None
    for kind, sign, limit in signs_and_slots(fixed, limits):
        if kind != before:
            runs.append(([""], []))
        before = kind
        texts, inner = runs[-1]
        if sign == "":
            texts.append("")
            inner.append(limit)
        else:
            texts[-1] += sign
    return tuple([(tuple(texts), tuple(inner)) for texts, inner in runs])


def signs_and_slots(fixed, limits):
    """Triples of what runs are made of: the kind of run, the sign ("" for a slot), the limit."""
    found = []
    for at, part in enumerate(fixed):
        if at > 0:
            limit = limits[at - 1]
            found.append(("a" if limit is None else "0", "", limit))
        found.extend([(sign_kind(sign), sign, None) for sign in part])
    return found


def sign_kind(sign):
    """One sign for all letters, one for all digits, one for all others."""
    if "a" <= sign <= "z":
        return "a"
    return "0" if "0" <= sign <= "9" else "|"
