"""The values of arguments and of messages ([18])."""

from readhome.words import is_integer, is_row, is_word


def is_number(value):
    """Whether value is a value of a number argument."""
    return is_integer(value) and value >= 0


def is_value_of(kind, value):
    """Whether value is a value of an argument of the kind."""
    if kind[0] == "number":
        return is_number(value)
    if kind[0] == "word":
        return is_word(value)
    return value in kind[1]


def are_values(arguments, value):
    """Whether value is a sequence of values of the arguments, in their order."""
    if not is_row(value, len(arguments), len(arguments)):
        return False
    return all([is_value_of(argument[1], item) for argument, item in zip(arguments, value)])
