"""Asks and bags of values drawn by a seed."""

import random

from chooseonce.askparts import has_first, judges_of

# By one judge of each of these names an ask may be put together; the letter tells the sort.
JUDGES = {"j": "number", "k": "number", "m": "number", "o": "product", "p": "product", "z": "text",
          "y": "text"}

TREES = (("s", 0, ((0, 2),), ()), ("s", 0, ((1, 1),), ()), ("s", 1, ((0,),), (("t", 0, ((0,),), ()),)),
         ("s", 1, ((0,),), (("t", 1, ((0,),), ()),)), ("s", 2, ((2,),), ()))


class AskDraw:
    """Draws asks in which no judge stands twice, nor first, and values by them."""

    def __init__(self, seed, judges=JUDGES):
        self.random = random.Random(seed)
        self.judges = dict(judges)

    def ask(self, deep):
        """An ask that is put together at most so many times, and has at most four judges."""
        while True:
            self.left = dict(self.judges)
            told = self.any_ask(deep)
            if told is not None and has_first(told) < 2 and len(judges_of(told)) <= 4:
                return told

    def any_ask(self, deep):
        """One by judges that are left; None if there are not enough."""
        how = self.random.choice(("then", "each", "beside", "against")) if deep else "basic"
        if deep and self.random.random() < 0.25:
            how = "basic"
        if how == "basic":
            return self.basic()
        if how == "each":
            halves = (self.take(("number", "text")), self.any_ask(deep - 1))
        elif how == "then":
            halves = (self.lead(), self.any_ask(deep - 1))
        elif how == "against":
            halves = (self.lead(), self.lead())
        else:
            halves = (self.any_ask(deep - 1), self.any_ask(deep - 1))
        return None if None in halves else (how, *halves)

    def take(self, sorts):
        names = [name for name, sort in self.left.items() if sort in sorts]
        if not names:
            return None
        name = self.random.choice(names)
        del self.left[name]
        return name

    def lead(self):
        judge = self.take(("number",))
        return None if judge is None else (self.random.choice(("least", "greatest")), judge)

    def basic(self):
        how = self.random.choice(("least", "greatest", "best", "ends", "within", "spread", "total",
                                  "names", "first"))
        if how == "first":
            return ("first",)
        sorts = {"spread": ("number", "product"), "total": ("product",), "names": ("text",)}
        judge = self.take(sorts.get(how, ("number",)))
        if judge is None:
            return None
        if how in ("best", "ends"):
            return (how, self.random.randint(1, 4), judge)
        return (how, self.random.randint(0, 3), judge) if how == "within" else (how, judge)

    def value(self, ask):
        """A value by the ask."""
        if ask[0] == "first":
            return self.random.choice(TREES)
        if ask[0] == "each":
            return (self.by_judge(ask[1]), self.value(ask[2]))
        if ask[0] in ("then", "beside", "against"):
            return (self.value(ask[1]), self.value(ask[2]))
        return self.by_judge(ask[-1])

    def by_judge(self, judge):
        if self.judges[judge] == "text":
            return self.random.choice(("", "a", "b", "ab"))
        return self.random.randint(-3, 3)

    def bag(self, ask, least, most):
        return tuple(self.value(ask) for _ in range(self.random.randint(least, most)))
