"""Small programs drawn by a seed whose lots are made or not, useful or not, with rings or without."""

from chooseonce.books import Book
from chooseonce.chains import ring_of
from tests.bookdrawing import BookDraw
from tests.shapereckoning import useful

ENDS = {"e0": "sign", "e1": "none", "e2": "run"}


class ShapeDraw(BookDraw):
    """Draws programs in which not each lot can be empty."""

    def __init__(self, seed):
        super().__init__(seed)
        self.lots = ("s", "t", "u", "w")[:self.random.randint(1, 4)]
        del self.kinds["e"]
        self.kinds = {maker: kinds[:3] for maker, kinds in self.kinds.items()}
        for maker, word in ENDS.items():
            self.kinds[maker] = ((word,) * self.rows,)

    def ways(self):
        ends = self.many(0, 2, lambda: self.end(self.one(tuple(ENDS))))
        return self.many(0 if ends else 1, 2, self.way) + ends

    def end(self, maker):
        return (maker, tuple(self.piece_of(kind) for kind in self.kinds[maker]), ())

    def drawn_rows(self):
        """Some rows, short ones more often."""
        most = 4 if self.rows == 1 else 2
        return tuple("".join(self.one(self.signs) for _ in range(self.random.randint(0, most)))
                     for _ in range(self.rows))


def drawn_books(seeds):
    """Pairs (draw, book), one for each seed."""
    draws = [ShapeDraw(seed) for seed in seeds]
    return [(draw, Book(draw.program())) for draw in draws]


def ringless(seeds):
    """Those of drawn_books that have no ring, and a useful lot."""
    return [(draw, book) for draw, book in drawn_books(seeds)
            if ring_of(book) is None and useful(book.program)]
