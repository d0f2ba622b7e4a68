"""Codes drawn by a seed, and codes that do just what one likes."""

import random

VARIABLES = ("n0", "n1", "w", "v0", "v1", "i0", "i1", "e0.0", "e0.1", "e0.12", "e1.0", "e1.3")


def code_telling(events, rows):
    """A code that does just these events."""
    return tuple(one for event in events for one in statements_telling(event, rows))


def statements_telling(event, rows):
    (lot, stretch), told = event[1], {}
    for row in range(rows):
        start, end = stretch[row]
        told[f"i{row}"], told[f"v{row}"] = start, end - start
        if event[0] == "look":
            for piece in range(len(event[3][row])):
                told[f"e{row}.{piece}"] = start + sum(event[3][row][:piece + 1])
    body = ("new", lot) if event[0] == "new" else ("look", lot, event[2])
    for variable, value in told.items():
        body = ("for", variable, ((value, ()),), ((value, ()),), (body,))
    return (body,)


class CodeDraw:
    """Draws codes of a few statements, as deep as told."""

    def __init__(self, seed):
        self.random = random.Random(seed)

    def code(self, deep):
        return tuple(self.statement(deep) for _ in range(self.random.randint(0, 3)))

    def statement(self, deep):
        how = self.random.choice(("for", "if", "new", "look")) if deep else self.random.choice(("new", "look"))
        lot = self.random.choice(("fold", "s", "new", "w", "from"))
        if how == "for":
            return ("for", self.random.choice(VARIABLES[2:]), self.expressions(), self.expressions(),
                    self.code(deep - 1))
        if how == "if":
            return ("if", self.expression(), self.code(deep - 1))
        return ("new", lot) if how == "new" else ("look", lot, self.random.randint(0, 12))

    def expressions(self):
        return tuple(self.expression() for _ in range(self.random.randint(1, 3)))

    def expression(self):
        pairs = tuple((self.random.choice(VARIABLES), self.random.randint(-3, 3))
                      for _ in range(self.random.randint(0, 4)))
        return (self.random.choice((0, 0, 1, -1, 7, -120, 10 ** 11)), pairs)
