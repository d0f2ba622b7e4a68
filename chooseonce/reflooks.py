"""The looks at the names in ways, the kinds of makers, and the refs of tests."""

from chooseonce.errors import BadMaker, BadRef, NoName
from chooseonce.kinds import kinds_by_maker, kinds_of, sign_places
from chooseonce.programplaces import LOTS, PAIRS, START, all_ways


def look_mentions(program):
    """Raises NoName for the first name of a lot or of pairs that there is not."""
    lots = [lot[0] for lot in program[LOTS]]
    pairs = [pair[0] for pair in program[PAIRS]]
    _look_name(program[START], lots)
    for maker, pieces, tests in all_ways(program):
        for piece in pieces:
            if piece[0] == "lot":
                _look_name(piece[1], lots)
        for test in tests:
            _look_name(test[0], pairs)


def look_makers(program):
    """Raises BadMaker for the first way with other kinds than one before it with its maker."""
    ways = all_ways(program)
    first_kinds = kinds_by_maker(ways)
    for way in ways:
        if kinds_of(way) != first_kinds[way[0]]:
            raise BadMaker(way[0])


def look_tests(program):
    """Raises BadRef for the first way with a test of what is no sign place."""
    for way in all_ways(program):
        places = sign_places(kinds_of(way))
        for _, one, other in way[2]:
            if one not in places or other not in places:
                raise BadRef(way[0])


def _look_name(name, names):
    if name not in names:
        raise NoName(name)
