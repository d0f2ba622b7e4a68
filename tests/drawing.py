"""Programs drawn by a seed, such as read returns them; they need not pass the looks."""

import random

LETTERS = "abcdefghijklmnopqrstuvwxyz"
NAMES = ("a", "fold", "x", "x10", "z" * 16, "q0", "signs1", "from")
NUMBERS = (0, 1, 2, 3, 9, 10, 10 ** 39, 10 ** 40 - 1)


class Draw:
    """Draws trees one by one; the same seed draws the same ones."""

    def __init__(self, seed):
        self.random = random.Random(seed)
        self.rows = self.random.choice((1, 2))

    def one(self, choices):
        return self.random.choice(choices)

    def many(self, least, most, draw):
        return tuple(draw() for _ in range(self.random.randint(least, most)))

    def integer(self):
        return self.one(NUMBERS) * self.one((1, -1))

    def letters(self, most):
        return "".join(self.random.sample(LETTERS, self.random.randint(1, most)))

    def words(self, width, least):
        found = self.many(least, 4, lambda: "".join(self.one("ablm") for _ in range(width)))
        return tuple(dict.fromkeys(found))

    def program(self):
        lots = self.many(1, 3, lambda: (self.one(NAMES), self.many(1, 3, self.way)))
        return (
            "program", self.letters(6), self.rows,
            self.many(0, 2, lambda: (self.one(NAMES), self.words(2, 1))),
            self.many(0, 2, self.numbers), self.one(NAMES), lots,
            self.many(0, 4, self.judge),
            self.many(0, 3, lambda: (self.one(NAMES), self.ask(3))),
        )

    def numbers(self):
        width = self.one((1, 2))
        entries = tuple((word, self.integer()) for word in self.words(width, 0))
        return (self.one(NAMES), width, self.integer(), entries)

    def way(self):
        test = lambda: (self.one(NAMES), self.ref(), self.ref())
        return (self.one(NAMES), self.many(1, 4, self.piece), self.many(0, 2, test))

    def piece(self):
        if self.one((True, False)):
            return ("lot", self.one(NAMES))
        return ("plain", tuple(self.mark() for _ in range(self.rows)))

    def mark(self):
        least, most = sorted((self.one(NUMBERS), self.one(NUMBERS)))
        return self.one((
            ("sign", ""), ("sign", self.letters(12)), ("none",), ("run", least, None),
            ("run", least, most),
        ))

    def ref(self):
        return (self.one(NUMBERS), self.random.randrange(self.rows))

    def judge(self):
        sort = self.one(("number", "product", "text"))
        return (self.one(NAMES), sort, self.many(0, 3, lambda: (self.one(NAMES), self.formula(sort))))

    def formula(self, sort):
        if sort == "number":
            how = self.one(("one", "min", "max"))
            forms = (1, 1) if how == "one" else (2, 3)
            return (how, self.many(*forms, lambda: self.many(1, 4, self.item)))
        if sort == "product":
            return self.many(1, 4, self.triple)
        return self.many(0, 4, self.text_item)

    def item(self):
        atom = self.one((
            ("one",), ("part", self.random.randrange(10)), ("num", *self.num()), ("len", self.ref()),
        ))
        return (self.integer(), atom)

    def num(self):
        return (self.one(NAMES), self.many(1, 3, self.ref))

    def triple(self):
        parts = self.many(0, 3, lambda: self.random.randrange(10))
        return (self.integer(), self.many(0, 2, self.num), tuple(sorted(parts)))

    def text_item(self):
        word = "".join(self.one('ab (~,x1.') for _ in range(self.random.randint(0, 8)))
        return self.one((
            ("word", word), ("part", self.random.randrange(10)), ("at", self.ref()),
        ))

    def ask(self, deep):
        if deep == 0 or self.one((True, False)):
            return self.basic()
        how = self.one(("each", "then", "beside", "against"))
        if how == "each":
            return (how, self.one(NAMES), self.ask(deep - 1))
        return (how, self.ask(deep - 1), self.ask(deep - 1))

    def basic(self):
        how = self.one(("least", "greatest", "best", "ends", "within", "spread", "total", "names",
                        "first"))
        if how == "first":
            return (how,)
        if how in ("best", "ends"):
            return (how, self.one(NUMBERS[1:]), self.one(NAMES))
        if how == "within":
            return (how, self.one(NUMBERS), self.one(NAMES))
        return (how, self.one(NAMES))
