"""Small programs drawn by a seed that pass all looks."""

from tests.drawing import Draw

LOTS = ("s", "t", "u")
MAKERS = ("f", "g", "h", "i")


class BookDraw(Draw):
    """Draws programs with few signs, so that their tests often hold."""

    def __init__(self, seed):
        super().__init__(seed)
        self.signs = self.one(("a", "ab", "bca"))
        self.lots = LOTS[:self.random.randint(1, 3)]
        self.kinds = {maker: self.many(1, 4, self.kind) for maker in MAKERS}
        self.kinds["e"] = (("run",) * self.rows,)
        self.pairs = tuple((name, self.words(2, 1)) for name in ("p", "q"))
        self.numbers_told = tuple((name, width, self.small(), self.entries(width))
                                  for name, width in (("n", 1), ("m", 2)))

    def small(self):
        return self.random.randint(-3, 3)

    def words(self, width, least):
        found = self.many(least, 4, lambda: "".join(self.one(self.signs) for _ in range(width)))
        return tuple(dict.fromkeys(found))

    def entries(self, width):
        return tuple((word, self.small()) for word in self.words(width, 0))

    def kind(self):
        mark = lambda: self.one(("sign", "none", "run"))
        return self.one(("lot", tuple(mark() for _ in range(self.rows))))

    def ways(self):
        # The last way lets each lot have candidates over all stretches.
        last = ("e", (("plain", (("run", 0, None),) * self.rows),), ())
        return self.many(1, 3, self.way) + (last,)

    def program(self):
        lots = tuple((lot, self.ways()) for lot in self.lots)
        makers = dict.fromkeys(way[0] for _, ways in lots for way in ways)
        judges = tuple(
            (name, sort, tuple((maker, self.formula_for(sort, maker)) for maker in makers))
            for name, sort in (("j", "number"), ("k", "number"), ("o", "product"), ("z", "text"))
        )
        return ("program", self.signs, self.rows, self.pairs, self.numbers_told, "s", lots, judges,
                tuple((f"a{at}", ask) for at, ask in enumerate(self.asks())))

    def way(self):
        maker = self.one(MAKERS)
        refs = self.refs(maker, ("sign",))
        tests = ()
        if refs:
            tests = self.many(0, 1, lambda: (self.one("pq"), self.one(refs), self.one(refs)))
        return (maker, tuple(self.piece_of(kind) for kind in self.kinds[maker]), tests)

    def refs(self, maker, words):
        return [(piece, row) for piece, kind in enumerate(self.kinds[maker]) if kind != "lot"
                for row, word in enumerate(kind) if word in words]

    def parts(self, maker):
        return [place for place, kind in enumerate(self.kinds[maker]) if kind == "lot"]

    def piece_of(self, kind):
        if kind == "lot":
            return ("lot", self.one(self.lots))
        return ("plain", tuple(self.mark_of(word) for word in kind))

    def mark_of(self, word):
        if word == "none":
            return ("none",)
        if word == "sign":
            return ("sign", self.one(("", self.signs, self.signs[0], self.signs[-1])))
        least = self.random.randint(0, 2)
        return ("run", least, self.one((None, least, least + 1)))

    def formula_for(self, sort, maker):
        if sort == "number":
            how = self.one(("one", "min", "max"))
            forms = (1, 1) if how == "one" else (2, 3)
            item = lambda: (self.small(), self.one(self.atoms(maker)))
            return (how, self.many(*forms, lambda: self.many(1, 3, item)))
        if sort == "product":
            return self.many(1, 3, lambda: self.triple_for(maker))
        items = [("word", "<"), ("word", "")] + [("part", place) for place in self.parts(maker)]
        items += [("at", ref) for ref in self.refs(maker, ("sign", "none", "run"))]
        return self.many(0, 4, lambda: self.one(items))

    def atoms(self, maker):
        atoms = [("one",)] + [("part", place) for place in self.parts(maker)]
        atoms += [("len", ref) for ref in self.refs(maker, ("run",))]
        return atoms + [("num", *num) for num in self.nums(maker)]

    def nums(self, maker):
        refs = self.refs(maker, ("sign",))
        if not refs:
            return []
        return [("n", (self.one(refs),)), ("m", (self.one(refs), self.one(refs)))]

    def triple_for(self, maker):
        nums, parts = self.nums(maker), self.parts(maker)
        chosen = self.many(0, 2, lambda: self.one(nums)) if nums else ()
        places = self.many(0, 3, lambda: self.one(parts)) if parts else ()
        return (self.small(), chosen, tuple(sorted(places)))

    def asks(self):
        return (
            ("least", "j"), ("greatest", "k"), ("best", 2, "j"), ("ends", 1, "k"),
            ("within", 1, "j"), ("spread", "o"), ("spread", "j"), ("total", "o"), ("names", "z"),
            ("first",), ("then", ("least", "j"), ("total", "o")), ("beside", ("first",), ("names", "z")),
            ("each", "z", ("beside", ("against", ("least", "j"), ("greatest", "k")), ("first",))),
            ("beside", ("each", "j", ("names", "z")), ("then", ("greatest", "k"), ("first",))),
        )
