"""[14], [15]: ways, pieces and refs."""

from chooseonce.errors import BadText
from chooseonce.readers import LineReader
from chooseonce.wayreading import piece_from, read_way, ref_from, way_from
from tests.helping import Case

SIGN, NONE = ("sign", ""), ("none",)


class Ways(Case):
    def refused(self, rows, text, place):
        self.raises(BadText(0, place), read_way, rows, text)

    def piece(self, rows, text):
        return read_way(rows, "way f(" + text + ")")[1]

    def test_as_the_document_prints_it(self):
        self.same(
            read_way(1, "way bond(sign(ab), fold) when mate 0 0"),
            ("bond", (("plain", (("sign", "ab"),)), ("lot", "fold")), (("mate", (0, 0), (0, 0)),)),
        )

    def test_pieces_on_one_row(self):
        for text, piece in (
            ("fold", ("lot", "fold")),
            ("sign", ("plain", (SIGN,))),
            ("sign(a)", ("plain", (("sign", "a"),))),
            ("sign(cab)", ("plain", (("sign", "cab"),))),
            ("sign(any)", ("plain", (("sign", "any"),))),
            ("none", ("plain", (NONE,))),
            ("run 0 0", ("plain", (("run", 0, 0),))),
            ("run 2 13", ("plain", (("run", 2, 13),))),
            ("run 5 any", ("plain", (("run", 5, None),))),
        ):
            self.same(self.piece(1, text), (piece,))

    def test_pieces_on_two_rows(self):
        for text, piece in (
            ("fold", ("lot", "fold")),
            ("sign / sign(ba)", ("plain", (SIGN, ("sign", "ba")))),
            ("none / run 1 2", ("plain", (NONE, ("run", 1, 2)))),
            ("run 0 any / none", ("plain", (("run", 0, None), NONE))),
            ("sign(a) / none", ("plain", (("sign", "a"), NONE))),
        ):
            self.same(self.piece(2, text), (piece,))

    def test_many_pieces_keep_their_sequence(self):
        self.same(self.piece(1, "none, a, sign, b, a, run 1 1"), (
            ("plain", (NONE,)), ("lot", "a"), ("plain", (SIGN,)), ("lot", "b"), ("lot", "a"),
            ("plain", (("run", 1, 1),)),
        ))

    def test_tests(self):
        self.same(
            read_way(1, "way f(sign) when p 0 1 and q 12 0 and p 3 3")[2],
            (("p", (0, 0), (1, 0)), ("q", (12, 0), (0, 0)), ("p", (3, 0), (3, 0))),
        )
        self.same(
            read_way(2, "way f(sign / sign) when p 0.0 2.1 and q 0 . 1 10.0")[2],
            (("p", (0, 0), (2, 1)), ("q", (0, 1), (10, 0))),
        )
        self.same(read_way(1, "way f(sign)")[2], ())

    def test_blanks_say_nothing(self):
        self.same(
            read_way(2, "  way  f (  sign ( ab )/run 0  any ,g )when p 0 . 0  1. 1  "),
            read_way(2, "way f(sign(ab) / run 0 any, g) when p 0.0 1.1"),
        )

    def test_by_name(self):
        self.same(read_way(text="way f(g)", rows=1), ("f", (("lot", "g"),), ()))

    def test_the_first_word_with_which_a_way_cannot_go_on(self):
        for text, place in (
            ("", 0), ("  ", 2), ("lot f(g)", 0), ("ways f(g)", 0), ('"way" f(g)', 0), ("(", 0),
            ("way", 3), ("way 7(g)", 4), ("way lot(g)", 4), ("way x3(g)", 4), ('way "f"(g)', 4),
            ("way f", 5), ("way f g", 6), ("way f[g]", 5),
            ("way f(", 6), ("way f()", 6), ("way f(, g)", 6), ("way f(3)", 6), ("way f(x1)", 6),
            ("way f(any)", 6), ('way f("sign")', 6), ("way f((g))", 6),
            ("way f(g", 7), ("way f(g h)", 8), ("way f(g,", 8), ("way f(g,)", 8),
            ("way f(g, lot)", 9), ("way f(g / h)", 8), ("way f(g]", 7),
            ("way f(sign ab)", 11), ("way f(sign())", 11), ("way f(sign(aa))", 11),
            ("way f(sign(a1))", 11), ("way f(sign(7))", 11), ('way f(sign("a"))', 11),
            ("way f(sign(a b))", 13), ("way f(sign(a)", 13), ("way f(sign(", 11),
            ("way f(sign / sign)", 11), ("way f(none(a))", 10), ("way f(none none)", 11),
            ("way f(run)", 9), ("way f(run any 2)", 10), ("way f(run a 2)", 10),
            ("way f(run 2)", 11), ("way f(run 2 1)", 12), ("way f(run 1 0)", 12),
            ("way f(run 2 a)", 12), ("way f(run 2 least)", 12), ("way f(run 2 -3)", 12),
            ('way f(run 2 "any")', 12), ("way f(run 2, 3)", 11), ("way f(run -1 2)", 10),
            ("way f(g) when", 13), ("way f(g) and p 0 0", 9), ("way f(g) g", 9),
            ("way f(g) when when 0 0", 14), ("way f(g) when 0 0", 14), ("way f(g) when p", 15),
            ("way f(g) when p a 0", 16), ("way f(g) when p 0", 17), ("way f(g) when p 0 a", 18),
            ("way f(g) when p 0 0 0", 20), ("way f(g) when p 0 0 p 0 0", 20),
            ("way f(g) when p 0 0 and", 23), ("way f(g) when p 0 0 and 0", 24),
            ("way f(g) when p 0 0 when p 0 0", 20), ("way f(g) when p 0.0 0.0", 17),
            ('way f(g) when p 0 0 "and"', 20), ('way f(g) "when" p 0 0', 9),
            ("way f(g)) ", 8), ("way f(g) way", 9),
        ):
            self.refused(1, text, place)

    def test_the_same_on_two_rows(self):
        for text, place in (
            ("way f(sign)", 10), ("way f(sign, g)", 10), ("way f(none none)", 11),
            ("way f(sign(a), g)", 13), ("way f(sign /)", 12), ("way f(sign / g)", 13),
            ("way f(sign / sign / sign)", 18), ("way f(g / sign)", 8), ("way f(run 0 any)", 15),
            ("way f(none / run 3 2)", 19), ("way f(run 3 2 / none)", 12),
            ("way f(none / sign(bb))", 18), ("way f(none, none)", 10),
            ("way f(g) when p 0 1", 18), ("way f(g) when p 0. 1", 20), ("way f(g) when p 0.2 0.0", 18),
            ("way f(g) when p 0.0 0.2", 22), ("way f(g) when p 0.0 1", 21),
            ("way f(g) when p 0.a 0.0", 18), ("way f(g) when p 0,0 0.0", 17),
            ("way f(g) when p .0 0.0", 16), ("way f(g) when p 0.10 0.0", 18),
            ("way f(g) when p 0.0 0.1.1", 23),
        ):
            self.refused(2, text, place)

    def test_a_line_is_cut_ahead_of_all_else(self):
        self.refused(1, "lot f(g) A", 9)


class FromReaders(Case):
    def test_way_from_lets_stay_what_follows(self):
        reader = LineReader(6, "way f(sign) when p 0 0 or")
        self.same(way_from(reader, 1), ("f", (("plain", (SIGN,)),), (("p", (0, 0), (0, 0)),)))
        self.same(reader.look(), ("word", "or"))
        reader = LineReader(6, "way f(g) and")
        self.same(way_from(reader=reader, rows=1), ("f", (("lot", "g"),), ()))
        self.same(reader.look(), ("word", "and"))

    def test_piece_from_lets_stay_what_follows(self):
        reader = LineReader(6, "sign(ab) / none / g")
        self.same(piece_from(reader, 2), ("plain", (("sign", "ab"), NONE)))
        self.same(reader.look(), ("mark", "/"))
        reader.take()
        self.same(piece_from(reader=reader, rows=2), ("lot", "g"))
        reader = LineReader(6, "sign / none")
        self.same(piece_from(reader, 1), ("plain", (SIGN,)))
        self.same(reader.look(), ("mark", "/"))

    def test_ref_from_lets_stay_what_follows(self):
        reader = LineReader(6, "12.1.0")
        self.same(ref_from(reader, 2), (12, 1))
        self.same(reader.look(), ("mark", "."))
        reader = LineReader(6, "3.0")
        self.same(ref_from(reader=reader, rows=1), (3, 0))
        self.same(reader.look(), ("mark", "."))

    def test_errors_have_the_line_of_the_reader(self):
        self.raises(BadText(6, 4), way_from, LineReader(6, "way lot(g)"), 1)
        self.raises(BadText(6, 0), piece_from, LineReader(6, "lot"), 1)
        self.raises(BadText(6, 1), ref_from, LineReader(6, "3"), 2)
        self.raises(BadText(6, 0), ref_from, LineReader(6, "a"), 1)
