"""Product formulas with their nums worked out, and the dresses by which they are."""

from chooseonce.choices import all_choices
from chooseonce.dresses import plain_dress
from chooseonce.formvalues import product_value


def collected(book, kinds, formula, dress):
    """A product formula, collected for a dress: pairs (parts, integer), rising by parts."""
    sums = {}
    for k, nums, parts in formula:
        # Without its parts a triple has the value of the integer and the nums alone.
        value = product_value(book, kinds, ((k, nums, ()),), dress, ())
        sums[parts] = sums.get(parts, 0) + value
    return tuple([(parts, sums[parts]) for parts in sorted(sums) if sums[parts] != 0])


def dresses_of(book, kinds, refs):
    """All dresses with any signs at these refs, and elsewhere what plain_dress has."""
    plain = plain_dress(book, kinds)
    places = sorted(refs)
    signed = all_choices([book.signs for _ in places])
    return tuple([_dress_with(plain, list(zip(places, signs))) for signs in signed])


def dress_with_products(book, kinds, formula):
    """A dress for which some product of the formula is left; None if there is none."""
    for dress in dresses_of(book, kinds, _named_refs(formula)):
        if collected(book, kinds, formula, dress):
            return dress
    return None


def _named_refs(formula):
    """A list of the unlike sign places that the nums of a product formula name."""
    refs = []
    for _, nums, _ in formula:
        for _, named in nums:
            refs.extend(named)
    return sorted(set(refs))


def _dress_with(plain, signed):
    """The plain dress with other signs at some refs, given as pairs (ref, sign)."""
    texts = [None if one is None else list(one) for one in plain]
    for (piece, row), sign in signed:
        texts[piece][row] = sign
    return tuple([None if one is None else tuple(one) for one in texts])
