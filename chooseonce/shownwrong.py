"""A small program and rows by which an ask that does not pass, chosen early, goes wrong."""

from chooseonce.askparts import judges_of
from chooseonce.borders import border_of
from chooseonce.programplaces import NUMBERS, SIGNS
from chooseonce.wrongnodes import wrong_node

# The name of the start lot; those of the parts' lots, and of the leaves, have a number behind them.
START_LOT = "s"
PART_LOT = "t"
LEAF = "v"


def shown_wrong(book, ask):
    """None if the ask passes, else a kin program and rows over which early is not once."""
    border = border_of(book, ask)
    if border is None:
        return None
    dress, others, bag = wrong_node(book, border)
    maker, place = border[1], border[2]
    leaves = _named_leaves(book, _leaves_by_lot(book, maker, place, others, bag))
    way = (maker, _pieces_of(book.kinds(maker), dress), ())
    lots = ((START_LOT, (way,)),) + tuple([_leaf_lot(book, lot, leaves[lot]) for lot in leaves])
    made = [leaf for lot in leaves for leaf in leaves[lot]]
    judges = tuple([_judge_with(book, judge, maker, made) for judge in judges_of(ask)])
    _, signs, rows, pairs, numbers = book.program[:NUMBERS + 1]
    program = ("program", signs, rows, pairs, numbers, START_LOT, lots, judges, (("shown", ask),))
    return (program, _rows_of(book, dress))


def is_kin(book, other, ask):
    """Whether the program of the other book is kin to that of the book, for the ask."""
    if book.program[SIGNS:NUMBERS + 1] != other.program[SIGNS:NUMBERS + 1]:
        return False
    judges = judges_of(ask)
    sorts = [(judge, book.sort_of(judge)) for judge in judges]
    if not all([judge in other.judges() and other.sort_of(judge) == sort for judge, sort in sorts]):
        return False
    makers = [maker for maker in other.makers() if other.parts(maker)]
    return all([_is_alike(book, other, maker, judges) for maker in makers])


def _is_alike(book, other, maker, judges):
    """Whether the maker is one of the book, too, with the same kinds and formulas."""
    if maker not in book.makers() or book.kinds(maker) != other.kinds(maker):
        return False
    return all([book.formula(judge, maker) == other.formula(judge, maker) for judge in judges])


def _leaves_by_lot(book, maker, place, others, bag):
    """A dict from the lots of the parts to lists of leaves, each a dict from judges to its values."""
    leaves = {}
    for at, part in enumerate(book.parts(maker)):
        alone = {judge: others[judge][at] for judge in others}
        leaves[f"{PART_LOT}{part}"] = bag if part == place else [alone]
    return leaves


def _named_leaves(book, leaves):
    """The same with pairs (maker, values), all makers unlike one another and those of the book."""
    many = sum([len(leaves[lot]) for lot in leaves])
    names = [f"{LEAF}{number}" for number in range(many + len(book.makers()))]
    free = [name for name in names if name not in book.makers()]
    named = {}
    for lot in leaves:
        named[lot] = list(zip(free, leaves[lot]))
        free = free[len(leaves[lot]):]
    return named


def _leaf_lot(book, lot, leaves):
    """The lot with a way for each leaf, without width."""
    piece = ("plain", (("none",),) * book.rows)
    return (lot, tuple([(maker, (piece,), ()) for maker, _ in leaves]))


def _pieces_of(kinds, dress):
    """Pieces of these kinds that let just this dress, and empty runs."""
    pieces = []
    for place, kind in enumerate(kinds):
        if kind == "lot":
            pieces.append(("lot", f"{PART_LOT}{place}"))
        else:
            marks = [_mark_for(word, text) for word, text in zip(kind, dress[place])]
            pieces.append(("plain", tuple(marks)))
    return tuple(pieces)


def _mark_for(word, text):
    if word == "sign":
        return ("sign", text)
    return ("run", 0, 0) if word == "run" else ("none",)


def _judge_with(book, judge, maker, leaves):
    """The judge with its formula for the maker, and for each leaf one that tells its value."""
    sort = book.sort_of(judge)
    formulas = [(maker, book.formula(judge, maker))]
    for leaf, values in leaves:
        formulas.append((leaf, _formula_telling(sort, values.get(judge))))
    return (judge, sort, tuple(formulas))


def _formula_telling(sort, value):
    """The formula of a leaf; None stands for nought."""
    if sort == "text":
        return () if value is None else (("word", value),)
    number = 0 if value is None else value
    if sort == "product":
        return ((number, (), ()),)
    return ("one", (((number, ("one",)),),))


def _rows_of(book, dress):
    """The rows with just the texts of the dress."""
    texts = [one for one in dress if one is not None]
    return tuple(["".join([one[row] for one in texts]) for row in range(book.rows)])
