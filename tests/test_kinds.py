"""[22]: the kinds of a way and their places; consequences of [29]."""

from chooseonce.kinds import kinds_of, part_places, run_places, sign_places
from tests.drawing import Draw
from tests.helping import Case

ONE = ("plain", (("sign", "ab"), ("none",)))
TWO = ("plain", (("run", 0, None), ("sign", "")))
WAY = ("bond", (ONE, ("lot", "fold"), TWO), ())
KINDS = (("sign", "none"), "lot", ("run", "sign"))


class Kinds(Case):
    def test_as_the_document_prints_it(self):
        self.same(kinds_of(WAY), KINDS)
        self.same(part_places(KINDS), (1,))
        self.same(sign_places(KINDS), ((0, 0), (2, 1)))
        self.same(run_places(KINDS), ((2, 0),))

    def test_on_one_row(self):
        way = ("f", (("lot", "a"), ("plain", (("sign", ""),)), ("plain", (("none",),)),
                     ("plain", (("run", 1, 2),)), ("lot", "b")), (("p", (1, 0), (1, 0)),))
        kinds = ("lot", ("sign",), ("none",), ("run",), "lot")
        self.same(kinds_of(way), kinds)
        self.same(part_places(kinds), (0, 4))
        self.same(sign_places(kinds), ((1, 0),))
        self.same(run_places(kinds), ((3, 0),))

    def test_without_any(self):
        self.same(part_places((("none",),)), ())
        self.same(sign_places(("lot", ("none",))), ())
        self.same(run_places(("lot", ("none",))), ())

    def test_by_piece_then_row(self):
        self.same(sign_places((("sign", "sign"), ("sign", "sign"))),
                  ((0, 0), (0, 1), (1, 0), (1, 1)))
        self.same(run_places(kinds=(("run", "run"), ("run", "none"))), ((0, 0), (0, 1), (1, 0)))

    def test_by_name(self):
        self.same(kinds_of(way=WAY), KINDS)
        self.same(part_places(kinds=KINDS), (1,))
        self.same(sign_places(kinds=KINDS), ((0, 0), (2, 1)))

    def test_for_each_piece_and_row_just_one_holds(self):
        for seed in range(100):
            draw = Draw(seed)
            way = draw.way()
            kinds = kinds_of(way)
            self.assertEqual(len(kinds), len(way[1]))
            for piece, kind in enumerate(kinds):
                for row in range(draw.rows):
                    held = [
                        piece in part_places(kinds), (piece, row) in sign_places(kinds),
                        (piece, row) in run_places(kinds), kind != "lot" and kind[row] == "none",
                    ]
                    self.assertEqual(held.count(True), 1)
                    if kind != "lot":
                        self.assertEqual(kind[row], way[1][piece][1][row][0])
