"""What a book is and which rule it breaks, told once more and slowly, for comparison.

It tries values one after the other where the package works with ways, so it takes only books
whose messages have few numbers.
"""

import itertools
import re

RULES = ("name", "key", "term", "ways", "once")


def is_rows(value, low, high, check):
    return type(value) in (list, tuple) and low <= len(value) <= high and all(map(check, value))


def has_shape(value, *checks):
    if type(value) not in (list, tuple) or len(value) != len(checks):
        return False
    return all(check(item) for check, item in zip(checks, value))


def is_name(value):
    return type(value) is str and bool(re.fullmatch("(?!other$)[a-z]{1,8}", value))


def is_key(value):
    return is_name(value) or type(value) is str and bool(
        re.fullmatch("other|=([0-9]|[12][0-9]|30)", value))


def are_unlike(values):
    return all(one != other for one, other in itertools.combinations(values, 2))


def is_class(value):
    def is_from(low, high):
        return lambda item: type(item) is int and low <= item <= high

    def is_anything(item):
        return True

    if not has_shape(value, is_name, is_from(1, 10), is_anything, is_from(0, 30), is_anything):
        return False
    _, modulus, residues, least, most = value
    return (
        modulus in (1, 2, 5, 10)
        and is_rows(residues, 1, 10, is_from(0, modulus - 1))
        and are_unlike(residues) and sorted(residues) == list(residues)
        and (most is None or is_from(least, 30)(most))
    )


def is_tongues(value):
    def is_tongue(item):
        return has_shape(item, is_name, lambda parent: type(parent) is str,
                         lambda classes: is_rows(classes, 0, 4, is_class)
                         and are_unlike([row[0] for row in classes]))

    if not is_rows(value, 1, 4, is_tongue) or not are_unlike([item[0] for item in value]):
        return False
    names = [item[0] for item in value]
    parents = [item[1] for item in value]
    return parents[0] == "" and all(parents[at] in names[:at] for at in range(1, len(value)))


def is_piece(value, branches):
    if type(value) not in (list, tuple) or not value:
        return False
    word, rest = value[0], value[1:]
    if word == "text":
        return has_shape(rest, lambda item: type(item) is str
                         and bool(re.fullmatch("[ -$&-z]{1,20}", item)))
    if word == "mark":
        return len(rest) == 0
    if word == "show":
        return has_shape(rest, is_name)
    if word == "case":
        return branches < 4 and has_shape(
            rest, is_name, lambda item: is_branches(item, branches + 1))
    return word == "term" and has_shape(rest, is_name, lambda item: is_rows(
        item, 0, 4, lambda row: has_shape(row, is_name, lambda source: has_shape(
            source, lambda kind: kind == "argument" or kind == "option", is_name))))


def is_branches(value, branches):
    if not is_rows(value, 1, 5, lambda row: has_shape(
            row, is_key, lambda pattern: is_pattern(pattern, branches))):
        return False
    keys = [row[0] for row in value]
    return are_unlike(keys) and keys.index("other") == len(keys) - 1 if "other" in keys else False


def is_pattern(value, branches=0):
    return is_rows(value, 0, 8, lambda piece: is_piece(piece, branches))


def is_kind(value):
    if has_shape(value, lambda word: word == "number" or word == "word"):
        return True
    return has_shape(value, lambda word: word == "choice", lambda options: is_rows(
        options, 2, 4, is_name) and are_unlike(options))


def pieces_in(pattern):
    for piece in pattern:
        yield piece
        if piece[0] == "case":
            for _, inner in piece[2]:
                yield from pieces_in(inner)


def is_message(value, tongues):
    if not has_shape(
        value, is_name,
        lambda rows: is_rows(rows, 0, 4, lambda row: has_shape(row, is_name, is_kind)),
        lambda rows: is_rows(rows, 1, 4, lambda row: has_shape(
            row, lambda name: name in tongues, is_pattern)),
    ):
        return False
    names = [form[0] for form in value[2]]
    return (
        are_unlike([argument[0] for argument in value[1]])
        and names[0] == tongues[0] and names == [name for name in tongues if name in names]
        and sum(len(list(pieces_in(form[1]))) for form in value[2]) <= 40
    )


def is_book(value):
    if type(value) not in (list, tuple) or len(value) != 2 or not is_tongues(value[0]):
        return False
    tongues = [tongue[0] for tongue in value[0]]
    if not is_rows(value[1], 0, 8, lambda message: is_message(message, tongues)):
        return False
    return are_unlike([message[0] for message in value[1]])


def class_of(book, tongue, number):
    classes = {row[0]: row[2] for row in book[0]}[tongue]
    for name, modulus, residues, least, most in classes:
        if number in range(least, 10 ** 31 if most is None else most + 1) and any(
                (number - residue) % modulus == 0 for residue in residues):
            return name
    return "other"


def form_of(book, name, tongue):
    forms = {row[0]: row[2] for row in book[1]}[name]
    for home, pattern in forms:
        if home == tongue:
            return home, pattern
    return form_of(book, name, {row[0]: row[1] for row in book[0]}[tongue])


def met(book, tongue, pattern, held):
    """What values meet: pairs ("branch", at), ("text", s), ("mark", None), ("show", argument),
    ("term", name); held has for each argument the pair of its value and its outer name."""
    for piece in pattern:
        if piece[0] == "case":
            value = held[piece[1]][0]
            keys = [value, "other"]
            if type(value) is int:
                keys = [f"={value}", class_of(book, tongue, value), "other"]
            at = [row[0] in keys for row in piece[2]].index(True)
            yield "branch", at
            yield from met(book, tongue, piece[2][at][1], held)
        elif piece[0] == "term":
            yield "term", piece[1]
            home, inner = form_of(book, piece[1], tongue)
            yield from met(book, home, inner, {
                name: held[word] if source == "argument" else (word, None)
                for name, (source, word) in piece[2]})
        elif piece[0] == "show":
            yield "show", held[piece[1]][1]
        else:
            yield piece[0], piece[1] if piece[0] == "text" else None


def values_of(arguments, numbers):
    """Values of a message, one word for each word argument and the numbers below a bound."""
    return itertools.product(*(
        range(numbers) if kind[0] == "number" else ["w"] if kind[0] == "word" else kind[1]
        for _, kind in arguments))


def breaks(book, message, at, tongue, pattern, rule):
    _, arguments, _ = message
    kinds = dict(arguments)
    pieces = list(pieces_in(pattern))
    if rule == "name":
        return any(
            piece[1] not in kinds or kinds[piece[1]][0] == barred
            for piece in pieces for word, barred in (("show", "choice"), ("case", "word"))
            if piece[0] == word)
    if rule == "key":
        classes = [row[0] for row in {row[0]: row[2] for row in book[0]}[tongue]]
        return any(
            key not in kinds[piece[1]][1] if kinds[piece[1]][0] == "choice"
            else key[0] != "=" and key not in classes
            for piece in pieces if piece[0] == "case" for key, _ in piece[2][:-1])
    if rule == "term":
        return any(not binds(book[1][:at], piece, kinds) for piece in pieces if piece[0] == "term")
    seen = {}
    for values in values_of(arguments, 42):
        held = {name: (value, name) for (name, _), value in zip(arguments, values)}
        steps = tuple(met(book, tongue, pattern, held))
        seen[tuple(number for word, number in steps if word == "branch")] = steps
    if rule == "ways":
        return len(seen) > 24 or any(
            sum(word != "branch" for word, _ in steps) > 16
            or sum(len(string) for word, string in steps if word == "text") > 80
            for steps in seen.values())
    return any(
        not are_unlike([name for word, name in steps if word == "show"])
        for steps in seen.values())


def binds(before, term, kinds):
    _, name, bindings = term
    for message in before:
        if message[0] == name:
            return len(bindings) == len(message[1]) and all(
                bound == argument and (
                    kinds.get(word) == kind if source == "argument"
                    else kind[0] == "choice" and word in kind[1])
                for (bound, (source, word)), (argument, kind) in zip(bindings, message[1]))
    return False


def fault(book):
    """The triple of the first broken rule, or None; book is a book of tuples."""
    for at, message in enumerate(book[1]):
        for tongue, pattern in message[2]:
            for rule in RULES:
                if breaks(book, message, at, tongue, pattern, rule):
                    return message[0], tongue, rule
    return None


def say(book, name, tongue, values):
    """What the values say in a lawful book."""
    home, pattern = form_of(book, name, tongue)
    arguments = {row[0]: row[1] for row in book[1]}[name]
    held = {row[0]: (value, row[0]) for row, value in zip(arguments, values)}
    shown = {row[0]: str(value) for row, value in zip(arguments, values)}
    text = ""
    for word, thing in met(book, home, pattern, held):
        text += {"text": thing, "mark": "|", "show": shown.get(thing)}.get(word, "")
    return text
