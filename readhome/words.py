"""Integers, sequences, words, names and keys ([13] and [15])."""

LETTERS = "abcdefghijklmnopqrstuvwxyz"
DIGITS = "0123456789"
# What a mark says.
MARK_SIGN = "|"


def is_integer(value):
    """Whether value is an integer; True and False are none."""
    return isinstance(value, int) and not isinstance(value, bool)


def is_within(value, least, most):
    """Whether value is an integer from least to most."""
    return is_integer(value) and least <= value <= most


def is_row(value, least, most):
    """Whether value is a sequence that has from least to most items."""
    return isinstance(value, (list, tuple)) and least <= len(value) <= most


def is_word(value):
    """Whether value is a string of 1 or more lowercase letters."""
    return isinstance(value, str) and value != "" and all("a" <= sign <= "z" for sign in value)


def is_name(value):
    """Whether value is a name."""
    return is_word(value) and len(value) <= 8 and value != "other"


def is_key(value):
    """Whether value is the key of a branch."""
    if not isinstance(value, str):
        return False
    return is_name(value) or value == "other" or value[:1] == "=" and is_key_number(value[1:])


def is_key_number(digits):
    """Whether digits are a number from 0 to 30 without leading zeros."""
    if not 1 <= len(digits) <= 2 or not all("0" <= sign <= "9" for sign in digits):
        return False
    return int(digits) <= 30 and str(int(digits)) == digits


def are_rising(numbers):
    """Whether each of the numbers is greater than the one before."""
    return all([low < high for low, high in zip(numbers, numbers[1:])])


def are_different(words):
    """Whether no two of the words are the same."""
    return len(set(words)) == len(words)


def frozen(value):
    """The same value with plain tuples in place of its lists and tuples."""
    if isinstance(value, (list, tuple)):
        return tuple([frozen(item) for item in value])
    return value
