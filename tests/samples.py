"""Books for the tests, and ways to take values apart."""

FOUND = ("found", (("n", ("number",)), ("who", ("word",))), (
    ("en", (("show", "n"), ("case", "n", (
        ("one", (("text", " file of "),)),
        ("other", (("text", " files of "),)),
    )), ("show", "who"))),
))

NAMES = ("names", (("a", ("word",)), ("b", ("word",))), (
    ("en", (("show", "a"), ("show", "b"))),
))

# The book of section 1 of the document.
OVERVIEW = ((("en", "", (("one", 1, (0,), 1, 1),)),), (FOUND, NAMES))

SEX = ("choice", ("male", "female"))

# One of everything: three tongues above one another, each kind, each piece, each source.
RICH = (
    (
        ("en", "", (("one", 1, (0,), 1, 1),)),
        ("sl", "en", (("one", 10, (1,), 0, None), ("few", 5, (2, 3, 4), 2, 30))),
        ("ch", "sl", ()),
    ),
    (
        ("own", (("s", SEX), ("w", ("word",))), (
            ("en", (
                ("case", "s", (("male", (("text", "his "),)), ("other", (("text", "her "),)))),
                ("show", "w"),
            )),
            ("ch", (("show", "w"), ("mark",), ("case", "s", (("other", ()),)))),
        )),
        ("count", (("n", ("number",)),), (
            ("en", (("show", "n"), ("case", "n", (
                ("=0", (("text", " none"),)),
                ("one", (("text", " file"),)),
                ("other", (("text", " files"),)),
            )))),
            ("sl", (("show", "n"), ("case", "n", (
                ("one", (("text", " a"),)),
                ("few", (("case", "n", (("=2", (("mark",),)), ("other", ()))),)),
                ("other", (("text", " ov"),)),
            )))),
        )),
        ("all", (("k", ("number",)), ("who", ("word",)), ("s", SEX)), (
            ("en", (
                ("term", "count", (("n", ("argument", "k")),)),
                ("text", " of "),
                ("term", "own", (("s", ("option", "male")), ("w", ("argument", "who")))),
            )),
            ("ch", (
                ("term", "own", (("s", ("argument", "s")), ("w", ("argument", "who")))),
                ("term", "count", (("n", ("argument", "k")),)),
            )),
        )),
    ),
)

# What is no sequence of the kind that is looked for, whatever stands in its place.
OTHER_THINGS = (
    0, 1, 5, -1, 31, 10 ** 30, True, False, None, "", "a", "male", "other", "=3", "=31", "nine" * 3,
    "A", " ", "text", "number", (), [], ("a",), ["mark"], ("number",), ("word",), ((),), ("a", "b"),
    ("a", ()), ("text", "a"), ("option", "male"),
)


def as_lists(value):
    """The same with lists in place of tuples, at every level."""
    if isinstance(value, (list, tuple)):
        return [as_lists(item) for item in value]
    return value


def as_tuples(value):
    """The same with tuples in place of lists, at every level."""
    if isinstance(value, (list, tuple)):
        return tuple(as_tuples(item) for item in value)
    return value


def is_plain(value):
    """Whether every sequence in value is a plain tuple."""
    if type(value) is tuple:
        return all(is_plain(item) for item in value)
    return not isinstance(value, (list, tuple))


def places(value):
    """The path of every part of value, at any depth."""
    found = []
    if isinstance(value, tuple):
        for at, item in enumerate(value):
            found.append((at,))
            found.extend((at,) + path for path in places(item))
    return found


def with_part(value, path, parts):
    """value with the parts in place of the one at the path."""
    at = path[0]
    if len(path) > 1:
        parts = (with_part(value[at], path[1:], parts),)
    return value[:at] + tuple(parts) + value[at + 1:]


def part_at(value, path):
    """The part of value at the path."""
    for at in path:
        value = value[at]
    return value


def changes(value):
    """value with one part, at any depth, left out, doubled or replaced."""
    found = []
    for path in places(value):
        part = part_at(value, path)
        found.append(with_part(value, path, ()))
        found.append(with_part(value, path, (part, part)))
        found.extend(with_part(value, path, (thing,)) for thing in OTHER_THINGS)
    return found


def book_of(pattern, arguments=(), classes=(), before=()):
    """A book of one tongue with the messages before, and behind them one with the pattern."""
    return ((("en", "", classes),), before + (("main", arguments, (("en", pattern),)),))


def text(string):
    """A pattern of one text."""
    return (("text", string),)
