"""[5], [30]: stretches; consequences of [34]."""

from chooseonce.stretches import piece_stretches, texts_in, whole_of, widths_of
from tests.helping import Case
from tests.listing import divided, placed


class Stretches(Case):
    def test_as_the_document_prints_it(self):
        self.same(
            piece_stretches(((1, 4), (2, 2)), ((1, 2, 0), (0, 0, 0))),
            (((1, 2), (2, 2)), ((2, 4), (2, 2)), ((4, 4), (2, 2))),
        )

    def test_whole(self):
        self.same(whole_of((0,)), ((0, 0),))
        self.same(whole_of(lengths=(7, 3)), ((0, 7), (0, 3)))

    def test_widths(self):
        self.same(widths_of(((2, 2),)), (0,))
        self.same(widths_of(stretch=((1, 4), (2, 3))), (3, 1))

    def test_texts(self):
        self.same(texts_in(("abcde",), ((1, 4),)), ("bcd",))
        self.same(texts_in(rows=("abc", "de"), stretch=((0, 3), (1, 1))), ("abc", ""))
        self.same(texts_in(("abc", "de"), ((2, 3), (0, 2))), ("c", "de"))

    def test_one_piece(self):
        self.same(piece_stretches(((3, 5),), ((2,),)), (((3, 5),),))
        self.same(piece_stretches(cut=((0,), (1,)), stretch=((3, 3), (0, 1))), (((3, 3), (0, 1)),))

    def test_rows_of_any_length(self):
        cut = (tuple([1] * 1000),)
        self.same(piece_stretches(((5, 1005),), cut),
                  tuple(((at, at + 1),) for at in range(5, 1005)))

    def test_all_cuts(self):
        rows = ("abcdef", "uvwxyz")
        stretch = ((1, 4), (3, 6))
        for upper in divided(3, 3):
            for lower in divided(3, 3):
                found = piece_stretches(stretch, (upper, lower))
                self.same(found, tuple(placed(stretch, (upper, lower), at) for at in range(3)))
                for row in (0, 1):
                    texts = [texts_in(rows, place)[row] for place in found]
                    self.same("".join(texts), texts_in(rows, stretch)[row])
