"""[37]: trees; consequences of [38]."""

from chooseonce.books import Book
from chooseonce.programs import read
from chooseonce.standing import stands
from chooseonce.trees import height_of, node_at, nodes_of, replaced_at
from tests.bookdrawing import BookDraw
from tests.helping import FOLD, PAIR, Case
from tests.listing import candidates, nodes, stretches_under

ONE, TWO = Book(read(FOLD)), Book(read(PAIR))
STOP = ("fold", 0, ((0,),), ())
FREE = ("fold", 1, ((1, 0),), (STOP,))
TREE = ("fold", 2, ((1, 0, 1, 1),), (STOP, FREE))


def high(height):
    tree = STOP
    for width in range(1, height):
        tree = ("fold", 1, ((1, width - 1),), (tree,))
    return tree


class Trees(Case):
    def test_as_the_document_prints_it(self):
        self.same(nodes_of(ONE, TREE[3][1], ((3, 4),)),
                  (((), "fold", ((3, 4),)), ((0,), "fold", ((4, 4),))))

    def test_height(self):
        self.same([height_of(tree) for tree in (STOP, FREE, TREE)], [1, 2, 3])
        self.same(height_of(("a", None, True, (FREE, STOP))), 3)
        self.same(height_of(candidate=("a", None, True, (STOP, TREE, STOP))), 4)
        self.same(height_of(high(200)), 200)

    def test_node_at(self):
        for path, node in (((), TREE), ((0,), STOP), ((1,), FREE), ((1, 0), STOP)):
            self.same(node_at(TREE, path), node)
        self.same(node_at(path=(0,), candidate=FREE), STOP)
        self.assertTrue(node_at(high(200), (0,) * 199) == STOP)

    def test_nodes_of(self):
        self.same(nodes_of(ONE, TREE, ((1, 4),)), (
            ((), "fold", ((1, 4),)), ((0,), "fold", ((2, 2),)), ((1,), "fold", ((3, 4),)),
            ((1, 0), "fold", ((4, 4),)),
        ))
        self.same(nodes_of(stretch=((0, 0),), candidate=STOP, book=ONE), (((), "fold", ((0, 0),)),))

    def test_nodes_of_other_lots_on_two_rows(self):
        stop = ("both", 0, ((0,), (0,)), ())
        last = ("rest", 0, ((2, 0, 0), (1, 0, 0)), (stop,))
        tree = ("both", 3, ((1, 2), (0, 1)), (last,))
        self.same(nodes_of(TWO, tree, ((2, 5), (1, 2))), (
            ((), "both", ((2, 5), (1, 2))), ((0,), "rest", ((3, 5), (1, 2))),
            ((0, 0), "both", ((5, 5), (2, 2))),
        ))

    def test_nodes_of_rise_by_path(self):
        left = ("fold", 2, ((1, 0, 1, 0),), (STOP, STOP))
        tree = ("fold", 2, ((1, 2, 1, 2),), (left, left))
        paths = [path for path, _, _ in nodes_of(ONE, tree, ((0, 6),))]
        self.same(paths, [(), (0,), (0, 0), (0, 1), (1,), (1, 0), (1, 1)])

    def test_nodes_of_high_trees(self):
        found = nodes_of(ONE, high(200), ((0, 199),))
        self.same(found, tuple(((0,) * deep, "fold", ((deep, 199),)) for deep in range(200)))

    def test_replaced_at(self):
        self.same(replaced_at(TREE, (), STOP), STOP)
        self.same(replaced_at(TREE, (0,), FREE), ("fold", 2, ((1, 0, 1, 1),), (FREE, FREE)))
        self.same(replaced_at(TREE, (1,), STOP), ("fold", 2, ((1, 0, 1, 1),), (STOP, STOP)))
        self.same(replaced_at(other=TREE, path=(1, 0), candidate=TREE),
                  ("fold", 2, ((1, 0, 1, 1),), (STOP, ("fold", 1, ((1, 0),), (TREE,)))))
        three = ("a", None, (), (STOP, STOP, STOP))
        self.same(replaced_at(three, (1,), FREE), ("a", None, (), (STOP, FREE, STOP)))
        self.assertTrue(replaced_at(high(200), (0,) * 198, STOP) != high(199))
        self.assertEqual(height_of(replaced_at(high(200), (0,) * 198, STOP)), 199)

    def test_arguments_stay_as_they_are(self):
        replaced_at(TREE, (1, 0), FREE)
        self.same(TREE, ("fold", 2, ((1, 0, 1, 1),), (STOP, ("fold", 1, ((1, 0),), (STOP,)))))


class Consequences(Case):
    def test_nodes_are_candidates_and_may_be_replaced(self):
        seen = 0
        for seed in range(80):
            draw = BookDraw(seed)
            book = Book(draw.program())
            rows = tuple("".join(draw.one(draw.signs) for _ in range(3)) for _ in range(draw.rows))
            stretch = draw.one(stretches_under(rows))
            for tree in candidates(book.program, rows, "s", stretch, 3)[:6]:
                found = nodes_of(book, tree, stretch)
                wanted = nodes(book.program, tree, stretch)
                self.same(found, tuple((path, node[0], place) for path, node, place in wanted))
                self.assertEqual(height_of(tree), 1 + max(len(path) for path, _, _ in found))
                for path, lot, place in found:
                    seen += 1
                    self.assertTrue(stands(book, rows, node_at(tree, path), lot, place))
                    for other in candidates(book.program, rows, lot, place, 2)[:4]:
                        changed = replaced_at(tree, path, other)
                        self.assertTrue(stands(book, rows, changed, "s", stretch))
                        self.assertEqual(node_at(changed, path), other)
                        self.assertEqual(replaced_at(changed, path, node_at(tree, path)), tree)
        self.assertGreater(seen, 100)
