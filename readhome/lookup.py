"""A book that is made ready: what its names stand for, and which branches its cases take."""

from readhome.errors import NoMessage, NoTongue

# A class depends on the last digit and on what is below 31, so the numbers below 60 take every
# way that some number takes.
NUMBERS = 60
ALL_NUMBERS = (1 << 60) - 1
# The numbers that a key may name are those below this one.
KEY_NUMBERS = 31


def stand_in(number):
    """The number below 60 that takes the same ways as the number."""
    return number if number < NUMBERS else NUMBERS - 10 + number % 10


def class_among(classes, number):
    """The name of the first of the classes that the number is in, or `other`."""
    for name, modulus, residues, least, most in classes:
        if number % modulus in residues and least <= number and (most is None or number <= most):
            return name
    return "other"


def number_masks(classes):
    """For each key of a case on a number the numbers below 60 that fit it: bit n stands for n."""
    masks = {f"={number}": 1 << number for number in range(KEY_NUMBERS)}
    for item in classes:
        masks[item[0]] = 0
    for number in range(NUMBERS):
        name = class_among(classes, number)
        if name != "other":
            masks[name] = masks[name] | (1 << number)
    masks["other"] = ALL_NUMBERS
    return masks


def branch_taken(branches, signs):
    """The place of the first branch whose key is one of the signs."""
    at = 0
    # The last key is `other`, which is one of the signs of every value.
    while branches[at][0] not in signs:
        at += 1
    return at


class Lookup:
    """The tongues and the messages of a book, which is made of tuples, by their names."""

    def __init__(self, book):
        tongues, messages = book
        self.book = book
        self.parents = {name: parent for name, parent, _ in tongues}
        self.classes = {name: classes for name, _, classes in tongues}
        self.arguments = {name: arguments for name, arguments, _ in messages}
        self.forms = {name: dict(forms) for name, _, forms in messages}
        self.masks = {name: number_masks(classes) for name, _, classes in tongues}

    def check_message(self, name):
        """Raise NoMessage for what is no name of a message."""
        if not isinstance(name, str) or name not in self.arguments:
            raise NoMessage(name)

    def check_tongue(self, name):
        """Raise NoTongue for what is no name of a tongue."""
        if not isinstance(name, str) or name not in self.parents:
            raise NoTongue(name)

    def form(self, name, tongue):
        """The pair (tongue, pattern) of the form that the message has in the tongue."""
        forms = self.forms[name]
        while tongue not in forms:
            tongue = self.parents[tongue]
        return (tongue, forms[tongue])

    def signs(self, tongue, value):
        """The keys that an option or a number fits in a form of the tongue."""
        if isinstance(value, str):
            return (value, "other")
        return (f"={value}", class_among(self.classes[tongue], value), "other")
