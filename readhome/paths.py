"""The ways through a form ([21]).

A way is kept as a pair (limits, steps). limits tells for each argument of the message which
values go this way: a mask of numbers, in which bit n stands for the number n, or a tuple of
options; None for a word. steps are the texts, marks and shows that the way meets, and the terms,
each before what it says; shows are told by the argument of the message itself, also within terms.
"""

from readhome.lookup import ALL_NUMBERS, branch_taken

MOST_WAYS = 24


def paths_of(lookup, name, tongue):
    """The ways of the message in the tongue, in their order; of more than 24 at least 25."""
    arguments = lookup.arguments[name]
    limits = {argument: widest_limit(kind) for argument, kind in arguments}
    scope = {argument: ("argument", argument) for argument, _ in arguments}
    home, pattern = lookup.form(name, tongue)
    return follow(lookup, home, pattern, scope, [(limits, ())])


def widest_limit(kind):
    """What the values of an argument of the kind may be before any case is met."""
    if kind[0] == "number":
        return ALL_NUMBERS
    if kind[0] == "choice":
        return kind[1]
    return None


def follow(lookup, tongue, pattern, scope, ways):
    """The ways, each as it goes on through the pattern of a form of the tongue.

    scope tells for each argument that the pattern names what it is: ("argument", name) with an
    argument of the outer message, or ("option", name).
    """
    for piece in pattern:
        ways = [longer for way in ways for longer in meet(lookup, tongue, piece, scope, way)]
        # Each begun way has values and so comes to an end: 25 of them are too many already.
        ways = ways[:MOST_WAYS + 1]
    return ways


def meet(lookup, tongue, piece, scope, way):
    """The ways into which the way goes on when it meets the piece."""
    if piece[0] == "case":
        return meet_case(lookup, tongue, piece, scope, way)
    if piece[0] == "term":
        return meet_term(lookup, tongue, piece, scope, way)
    limits, steps = way
    if piece[0] == "show":
        return [(limits, steps + (("show", scope[piece[1]][1]),))]
    return [(limits, steps + (piece,))]


def meet_case(lookup, tongue, piece, scope, way):
    """The ways into which the way parts at the case: a branch without values makes none."""
    _, argument, branches = piece
    limits, steps = way
    word, name = scope[argument]
    if word == "option":
        # An option that is bound is one value, so the way goes on along one branch.
        pattern = branches[branch_taken(branches, lookup.signs(tongue, name))][1]
        return follow(lookup, tongue, pattern, scope, [way])
    if isinstance(limits[name], int):
        shares = number_shares(branches, limits[name], lookup.masks[tongue])
    else:
        shares = option_shares(branches, limits[name])
    found = []
    for share, (_, pattern) in zip(shares, branches):
        if share:
            parted = ({**limits, name: share}, steps)
            found.extend(follow(lookup, tongue, pattern, scope, [parted]))
    return found


def number_shares(branches, numbers, masks):
    """For each branch which of the numbers take it, all as masks."""
    shares = []
    for key, _ in branches:
        shares.append(numbers & masks[key])
        numbers = numbers & ~masks[key]
    return shares


def option_shares(branches, options):
    """For each branch which of the options take it."""
    shares = []
    for key, _ in branches:
        shares.append(tuple([option for option in options if key in (option, "other")]))
        options = tuple([option for option in options if option != key])
    return shares


def meet_term(lookup, tongue, piece, scope, way):
    """The ways into which the way goes on through what the term says."""
    _, name, bindings = piece
    limits, steps = way
    inner = {}
    for argument, source in bindings:
        inner[argument] = scope[source[1]] if source[0] == "argument" else source
    home, pattern = lookup.form(name, tongue)
    return follow(lookup, home, pattern, inner, [(limits, steps + (piece,))])
