"""What a pattern is ([15]): its form alone, whatever its names stand for."""

from readhome.words import are_different, is_key, is_name, is_row


def is_pattern(value, depth):
    """Whether value is a pattern that may stand in so many branches."""
    return is_row(value, 0, 8) and all(is_piece(piece, depth) for piece in value)


def is_piece(value, depth):
    """Whether value is a piece of a pattern that stands in so many branches."""
    if not is_row(value, 1, 3):
        return False
    if value[0] == "text":
        return len(value) == 2 and is_text(value[1])
    if value[0] == "mark":
        return len(value) == 1
    if value[0] == "show":
        return len(value) == 2 and is_name(value[1])
    if len(value) != 3 or not is_name(value[1]):
        return False
    if value[0] == "case":
        return are_branches(value[2], depth + 1)
    return value[0] == "term" and are_bindings(value[2])


def is_text(value):
    """Whether value may stand in a piece as its text."""
    return isinstance(value, str) and 1 <= len(value) <= 20 and all(is_sign(sign) for sign in value)


def is_sign(sign):
    """Whether the character may stand in a text."""
    # 37 is the percent sign, which the document excludes.
    return 32 <= ord(sign) <= 122 and ord(sign) != 37


def are_branches(value, depth):
    """Whether value is the branches of a case, with patterns that stand in so many branches."""
    if depth > 4 or not is_row(value, 1, 5):
        return False
    if not all(is_branch(branch, depth) for branch in value):
        return False
    keys = [branch[0] for branch in value]
    return keys[-1] == "other" and are_different(keys)


def is_branch(value, depth):
    """Whether value is a pair of a key and a pattern that stands in so many branches."""
    return is_row(value, 2, 2) and is_key(value[0]) and is_pattern(value[1], depth)


def are_bindings(value):
    """Whether value is the bindings of a term."""
    return is_row(value, 0, 4) and all(is_binding(binding) for binding in value)


def is_binding(value):
    """Whether value is a pair of an argument and a source."""
    if not is_row(value, 2, 2) or not is_row(value[1], 2, 2):
        return False
    return is_name(value[0]) and value[1][0] in ("argument", "option") and is_name(value[1][1])


def all_pieces(pattern):
    """The pieces of a pattern, those in its branches included."""
    found = []
    for piece in pattern:
        found.append(piece)
        if piece[0] == "case":
            for branch in piece[2]:
                found.extend(all_pieces(branch[1]))
    return found
