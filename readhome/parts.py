"""What the tongues and the messages of a book are ([15])."""

from readhome.patterns import all_pieces, is_pattern
from readhome.words import are_different, are_rising, is_integer, is_name, is_row, is_within


def are_tongues(value):
    """Whether value is the tongues of a book."""
    if not is_row(value, 1, 4):
        return False
    before = []
    for tongue in value:
        if not is_tongue(tongue, before):
            return False
        before.append(tongue[0])
    return True


def is_tongue(value, before):
    """Whether value is a tongue that stands behind those of the names before."""
    if not is_row(value, 3, 3) or not is_name(value[0]) or value[0] in before:
        return False
    if value[1] not in (before if before else [""]):
        return False
    return are_classes(value[2])


def are_classes(value):
    """Whether value is the classes of a tongue."""
    if not is_row(value, 0, 4) or not all(is_class(item) for item in value):
        return False
    return are_different([item[0] for item in value])


def is_class(value):
    """Whether value is a class of a tongue."""
    if not is_row(value, 5, 5):
        return False
    name, modulus, residues, least, most = value
    if not is_name(name) or not is_integer(modulus) or modulus not in (1, 2, 5, 10):
        return False
    if not are_residues(residues, modulus) or not is_within(least, 0, 30):
        return False
    return most is None or is_within(most, least, 30)


def are_residues(value, modulus):
    """Whether value is the residues of a class with this modulus."""
    if not is_row(value, 1, 10) or not all(is_within(item, 0, modulus - 1) for item in value):
        return False
    return are_rising(value)


def are_messages(value, tongues):
    """Whether value is the messages of a book with tongues of these names."""
    if not is_row(value, 0, 8) or not all(is_message(item, tongues) for item in value):
        return False
    return are_different([item[0] for item in value])


def is_message(value, tongues):
    """Whether value is a message of a book with tongues of these names."""
    if not is_row(value, 3, 3):
        return False
    return is_name(value[0]) and are_arguments(value[1]) and are_forms(value[2], tongues)


def are_arguments(value):
    """Whether value is the arguments of a message."""
    if not is_row(value, 0, 4) or not all(is_argument(item) for item in value):
        return False
    return are_different([item[0] for item in value])


def is_argument(value):
    """Whether value is a pair of a name and a kind."""
    return is_row(value, 2, 2) and is_name(value[0]) and is_kind(value[1])


def is_kind(value):
    """Whether value is the kind of an argument."""
    if not is_row(value, 1, 2):
        return False
    if len(value) == 1:
        return value[0] in ("number", "word")
    return value[0] == "choice" and are_options(value[1])


def are_options(value):
    """Whether value is the options of a choice."""
    return is_row(value, 2, 4) and all(is_name(item) for item in value) and are_different(value)


def are_forms(value, tongues):
    """Whether value is the forms of a message in a book with tongues of these names."""
    if not is_row(value, 1, 4) or not all(is_form(item, tongues) for item in value):
        return False
    places = [tongues.index(item[0]) for item in value]
    if places[0] != 0 or not are_rising(places):
        return False
    return sum([len(all_pieces(item[1])) for item in value]) <= 40


def is_form(value, tongues):
    """Whether value is a pair of one of the tongues and a pattern."""
    return is_row(value, 2, 2) and value[0] in tongues and is_pattern(value[1], 0)
