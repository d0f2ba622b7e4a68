"""What code does for rows of some lengths."""

from chooseonce.doing import Doing
from chooseonce.variables import end_name


def events_of(shape, lengths, code):
    """What the code does, in sequence: ("new", spot) and ("look", spot, way, cut)."""
    events = []
    rows = list(range(len(lengths)))

    def tell(statement, settings):
        froms = [settings.get(f"i{row}", 0) for row in rows]
        widths = [settings.get(f"v{row}", 0) for row in rows]
        spot = (statement[1], tuple([(start, start + width) for start, width in zip(froms, widths)]))
        if statement[0] == "new":
            events.append(("new", spot))
        else:
            many = len(shape.book.ways(statement[1])[statement[2]][1])
            cut = tuple([_widths_told(row, froms[row], many, settings) for row in rows])
            events.append(("look", spot, statement[2], cut))

    doing = Doing(lengths, tell)
    doing.do(code)
    return tuple(events)


def turns_of(lengths, code):
    """How often the body of a for is entered, all fors together."""
    return _done(lengths, code).turns


def idle_loops(lengths, code):
    """How often a for over an end, but the first piece's, is done and has no value."""
    return _done(lengths, code).idle


def _done(lengths, code):
    doing = Doing(lengths, _tell_nothing)
    doing.do(code)
    return doing


def _tell_nothing(statement, settings):
    """Nobody is to be told what the code begins and looks at."""


def _widths_told(row, start, many, settings):
    """The widths of this many pieces on a row, by the ends as they are set."""
    ends = [start] + [settings.get(end_name(row, piece), 0) for piece in range(many)]
    return tuple([end - begin for begin, end in zip(ends, ends[1:])])
