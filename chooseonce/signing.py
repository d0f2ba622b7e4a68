"""Which ways can be signed."""

from chooseonce.dresses import letters_of
from chooseonce.kinds import kinds_of, sign_places


def signing_of(book, way):
    """Pairs (ref, sign) for all sign places by which letters and tests hold; None if there are none."""
    tested = _tested_refs(way)
    signs = _signs_for(book, way, tested)
    if signs is None:
        return None
    told = {ref: sign for ref, sign in zip(tested, signs)}
    refs = sign_places(kinds_of(way))
    return tuple([(ref, told.get(ref, _letters_at(book, way, ref)[0])) for ref in refs])


def is_signed(book, way):
    """Whether signs can be put at the sign places by which letters and tests hold."""
    return signing_of(book, way) is not None


def _tested_refs(way):
    """A list of the unlike refs of the tests; only their signs hang on one another."""
    refs = []
    for test in way[2]:
        for ref in test[1:]:
            if ref not in refs:
                refs.append(ref)
    return refs


def _signs_for(book, way, refs):
    """Signs for the refs, in their sequence, by which the tests hold; None if there are none."""
    due = [()]
    while due:
        begun = due.pop()
        if len(begun) == len(refs):
            return begun
        letters = _letters_at(book, way, refs[len(begun)])
        longer = [begun + (sign,) for sign in letters]
        due.extend([signs for signs in longer if _may_hold(book, way, refs, signs)])
    return None


def _may_hold(book, way, refs, signs):
    """Whether those tests hold whose refs have signs."""
    told = {ref: sign for ref, sign in zip(refs, signs)}
    for name, one, other in way[2]:
        if one in told and other in told and not book.in_pairs(name, told[one] + told[other]):
            return False
    return True


def _letters_at(book, way, ref):
    piece, row = ref
    return letters_of(book, way[1][piece][1][row])
