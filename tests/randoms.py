"""Random books: most parts of them as they should be, some not; and small ones for reading."""

from readhome.books import is_lawful

NUMBER, WORD = ("number",), ("word",)
CHOICES = (("choice", ("x", "y")), ("choice", ("x", "y", "z")), ("choice", ("y", "x")))
TEXTS = ("a", " b", "no", "twenty characters ok", "", "one", "7")


def random_book(random, care):
    """A book, which has the form of a book; care is how likely each part keeps the rules."""
    tongues = random_tongues(random)
    messages = []
    for name in ("ma", "mb", "mc", "md")[:random.randint(1, 4)]:
        messages.append(random_message(random, care, name, tongues, messages))
    return (tongues, tuple(messages))


def random_tongues(random):
    tongues = []
    for at, name in enumerate(("ta", "tb", "tc")[:random.randint(1, 3)]):
        parent = tongues[random.randrange(at)][0] if at else ""
        names = random.sample(("one", "two", "few"), random.randint(0, 3))
        tongues.append((name, parent, tuple(random_class(random, word) for word in names)))
    return tuple(tongues)


def random_class(random, name):
    modulus = random.choice((1, 2, 5, 10))
    residues = sorted(random.sample(range(modulus), random.randint(1, modulus)))
    least = random.choice((0, 0, 1, 2, 11, 30))
    most = random.choice((None, None, least, min(30, least + 9)))
    return (name, modulus, tuple(residues), least, most)


def random_message(random, care, name, tongues, before):
    arguments = []
    for word in ("a", "b", "c", "d")[:random.randint(0, 4)]:
        kinds = CHOICES + (WORD,) * 2
        if [kind for _, kind in arguments].count(NUMBER) < 2:
            kinds += (NUMBER,) * 3
        arguments.append((word, random.choice(kinds)))
    forms = []
    for at, (tongue, _, classes) in enumerate(tongues):
        if at == 0 or random.random() < 0.4:
            keys = [row[0] for row in classes] + ["=0", "=1", "=2", "=12"]
            maker = Maker(random, care, arguments, keys, before)
            forms.append((tongue, maker.pattern(0)))
    return (name, tuple(arguments), tuple(forms))


class Maker:
    """Makes the patterns of one form."""

    def __init__(self, random, care, arguments, keys, before):
        self.random = random
        self.care = care
        self.arguments = arguments
        self.keys = keys
        self.before = before
        self.room = 10
        self.shown = []

    def careful(self):
        return self.random.random() < self.care

    def pattern(self, depth):
        pieces = []
        for _ in range(self.random.choice((0, 1, 1, 2, 3)) if depth else 4):
            if self.room > 0:
                self.room -= 1
                pieces.append(self.piece(depth))
        return tuple(pieces)

    def piece(self, depth):
        word = self.random.choice(("text", "mark", "show", "case", "case", "term", "term"))
        if word == "show":
            fit = [name for name, kind in self.arguments if kind in (NUMBER, WORD)]
            if self.careful():
                fit = [name for name in fit if name not in self.shown]
            name = self.random.choice(fit or ["x"])
            if fit or not self.careful():
                self.shown.append(name)
                return ("show", name)
        if word == "case" and depth < 3:
            fit = [name for name, kind in self.arguments if kind != WORD]
            if fit or not self.careful():
                return self.case(self.random.choice(fit or ["a"]), depth)
        if word == "term":
            return self.term()
        return ("mark",) if word == "mark" else ("text", self.random.choice(TEXTS) or "i" * 20)

    def case(self, name, depth):
        kind = dict(self.arguments).get(name, NUMBER)
        keys = list(self.keys if kind == NUMBER else kind[1] if kind != WORD else ["x"])
        if not self.careful():
            keys += ["none", "=3"]
        keys = self.random.sample(keys, self.random.randint(0, min(4, len(keys))))
        shown = list(self.shown)
        branches = []
        for key in keys + ["other"]:
            self.shown = list(shown)
            branches.append((key, self.pattern(depth + 1)))
        return ("case", name, tuple(branches))

    def sources(self, kind):
        """What an argument of the kind may be bound to."""
        found = [("argument", name) for name, its in self.arguments if its == kind]
        return found + [("option", option) for option in (kind[1] if kind[0] == "choice" else ())]

    def term(self):
        fit = [message for message in self.before
               if all(self.sources(kind) for _, kind in message[1])]
        if self.careful() and not fit:
            return ("mark",)
        name, arguments, _ = self.random.choice(fit or [("none", (), ())])
        bindings = [(argument, self.random.choice(self.sources(kind)))
                    for argument, kind in arguments]
        if not self.careful():
            bindings = self.random.choice((
                bindings[1:], bindings[::-1], bindings[:3] + [("a", ("option", "x"))],
                [(word, ("argument", "b")) for word, _ in bindings]))
        return ("term", name, tuple(bindings))


SIGNS = (("a", "b", "ab", "aa"), ("1", "0", "12", "11", "2"), ("a", "1", "-", " "),
         ("a", "b", " ", "ba", "0", "7"))


def short_book(random, names=("main",)):
    """A book of messages of these names in one tongue `en`.

    Their texts are short and much alike, so that values often say the same, but not always.
    """
    classes = tuple(random_class(random, name) for name in ("one", "two", "few")[:random.randint(0, 3)])
    signs = SIGNS if len(names) == 1 else (random.choice(SIGNS),)
    return ((("en", "", classes),), tuple(
        short_message(random, name, [row[0] for row in classes], signs) for name in names))


def short_message(random, name, classes, signs):
    """A message for a tongue that has classes of these names, with one of the lists of signs."""
    kinds = random.sample((NUMBER, NUMBER, WORD, WORD, CHOICES[1]), random.randint(1, 3))
    arguments = tuple(zip("nwv", kinds))
    maker = ShortMaker(random, arguments, classes, random.choice(signs))
    pattern = maker.pattern(0)
    if random.random() < 0.6:
        pattern += tuple(("show", name) for name, kind in arguments
                         if kind in (NUMBER, WORD) and name not in maker.shown)
    return (name, arguments, (("en", pattern[:8]),))


def lawful_books(chance, names, many):
    """So many lawful short books of messages of these names."""
    while many > 0:
        book = short_book(chance, names)
        if is_lawful(book):
            many -= 1
            yield book


def lawful_forms(chance, many):
    """For so many lawful books, short or with all that there is, all (book, name, tongue, arguments)."""
    while many > 0:
        book = short_book(chance) if chance.random() < 0.6 else random_book(chance, 1)
        if is_lawful(book):
            many -= 1
            for name, arguments, _ in book[1]:
                for tongue, _, _ in book[0]:
                    yield book, name, tongue, arguments


class ShortMaker:
    """Makes the pattern of a message that is short and shows nothing twice."""

    def __init__(self, random, arguments, keys, signs):
        self.random = random
        self.arguments = arguments
        self.keys = keys
        self.signs = signs
        self.room = random.randint(4, 14)
        self.shown = []

    def pattern(self, depth):
        pieces = []
        for _ in range(self.random.randint(1 - min(depth, 1), 4 - min(depth, 1))):
            if self.room > 0:
                self.room -= 1
                pieces.append(self.piece(depth))
        return tuple(pieces)

    def piece(self, depth):
        chance = self.random.random()
        fit = [name for name, kind in self.arguments if kind in (NUMBER, WORD) and name not in self.shown]
        if chance < 0.45 and fit:
            self.shown.append(self.random.choice(fit))
            return ("show", self.shown[-1])
        fit = [(name, kind) for name, kind in self.arguments if kind != WORD]
        if chance < 0.7 and depth < 2 and fit:
            return self.case(*self.random.choice(fit), depth)
        return ("text", self.random.choice(self.signs)) if chance < 0.9 else ("mark",)

    def case(self, name, kind, depth):
        keys = list(kind[1]) if kind != NUMBER else self.keys + [
            "=0", "=1", "=12", f"={self.random.randint(2, 11)}"]
        keys = self.random.sample(keys, self.random.randint(0, min(3, len(keys))))
        before, shown, branches = self.shown, [], []
        for key in keys + ["other"]:
            self.shown = list(before)
            branches.append((key, self.pattern(depth + 1)))
            shown += self.shown
        self.shown = before + shown
        return ("case", name, tuple(branches))


def tight_book(random):
    """A book of one message `main` in `en` that often needs marks between what it shows.

    Its form has at most 6 gaps, and patterns of at most 4 pieces.
    """
    kinds = random.sample((WORD, WORD, WORD, NUMBER, NUMBER, CHOICES[0]), random.randint(1, 4))
    if kinds.count(NUMBER) > 1 and len(kinds) > 3:
        kinds.remove(NUMBER)
    arguments = tuple(zip("abcd", kinds))
    shows = [("show", name) for name, kind in arguments if kind in (WORD, NUMBER)]
    texts = [("text", sign) for sign in random.choice(SIGNS)]
    pieces = list(shows)
    for name, kind in arguments:
        if kind not in (WORD, NUMBER) or kind == NUMBER and random.random() < 0.3:
            keys = [kind[1][0] if kind != NUMBER else random.choice(("=0", "=1", "few")), "other"]
            branches = []
            for key in keys:
                held = random.choices(texts, k=random.randint(0, 3))
                if random.random() < 0.3:
                    held.insert(random.randint(0, len(held)), ("mark",))
                branches.append((key, tuple(held)))
            pieces.append(("case", name, tuple(branches)))
    random.shuffle(pieces)
    while len(pieces) < 4 and random.random() < 0.4:
        pieces.insert(random.randint(0, len(pieces)), random.choice(texts))
    few = random_class(random, "few")
    return ((("en", "", (few,)),), (("main", arguments, (("en", tuple(pieces[:4])),)),))
