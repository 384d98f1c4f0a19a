"""Patterns as texts ([40] to [42])."""

from readhome.errors import BadPattern, BadValue
from readhome.patterns import is_pattern
from readhome.scanning import scanned
from readhome.words import MARK_SIGN


def printed_pattern(pattern):
    """The text of the pattern."""
    if not is_pattern(pattern, 0):
        raise BadValue(0)
    return pattern_text(pattern)


def parse_pattern(text):
    """The pattern that the text tells."""
    if not isinstance(text, str):
        raise BadPattern(0)
    pattern = scanned(text)
    # The grammar sets no bounds; those of patterns are seen only in the whole of it.
    if not is_pattern(pattern, 0):
        raise BadPattern(0)
    return pattern


def pattern_text(pattern):
    """The text of a pattern, which may stand in a branch."""
    return "".join([piece_text(piece) for piece in pattern])


def piece_text(piece):
    """The text of a piece."""
    if piece[0] == "text":
        return piece[1].replace(";", ";;").replace(":", "::")
    if piece[0] == "mark":
        return MARK_SIGN
    if piece[0] == "show":
        return "{" + piece[1] + "}"
    if piece[0] == "case":
        branches = [key + ": " + pattern_text(pattern) for key, pattern in piece[2]]
        return "{" + piece[1] + "? " + "; ".join(branches) + "}"
    bindings = [binding_text(argument, source) for argument, source in piece[2]]
    return "{@" + piece[1] + (" " if bindings else "") + ", ".join(bindings) + "}"


def binding_text(argument, source):
    """The text of a binding."""
    word, name = source
    return argument + ("=:" if word == "option" else "=") + name
