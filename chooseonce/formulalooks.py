"""The looks at the formulas of judges, and at asks."""

from chooseonce.askparts import all_asks, has_first, judges_of, own_judge
from chooseonce.errors import BadAsk, BadRef, Missing, NoName, TwiceNamed
from chooseonce.kinds import kinds_by_maker, mark_places, part_places, run_places, sign_places
from chooseonce.programplaces import ASKS, JUDGES, NUMBERS, all_ways

# The sorts that an ask lets its own judge have.
SORTS_LET = {
    "least": ("number",),
    "greatest": ("number",),
    "best": ("number",),
    "ends": ("number",),
    "within": ("number",),
    "spread": ("number", "product"),
    "total": ("product",),
    "names": ("text",),
    "each": ("number", "text"),
}


def look_formulas(program):
    """Raises an error for the first breach in the formulas of the judges."""
    first_kinds = kinds_by_maker(all_ways(program))
    widths = _first_told([(entry[0], entry[1]) for entry in program[NUMBERS]])
    for judge, sort, formulas in program[JUDGES]:
        _look_makers_of(formulas, sort, first_kinds, widths)
        made = [maker for maker, formula in formulas]
        for maker in first_kinds:
            if maker not in made:
                raise Missing(judge, maker)


def look_asks(program):
    """Raises an error for the first breach in the asks."""
    sorts = _first_told([(entry[0], entry[1]) for entry in program[JUDGES]])
    for name, ask in program[ASKS]:
        judges = judges_of(ask)
        for judge in judges:
            if judge not in sorts:
                raise NoName(judge)
        twice = len(set(judges)) < len(judges) or has_first(ask) > 1
        if twice or not all([_is_let(one, sorts) for one in all_asks(ask)]):
            raise BadAsk(name)


def _first_told(pairs):
    """A dict of the pairs; of a name that stands twice the first one tells."""
    told = {}
    for name, value in pairs:
        if name not in told:
            told[name] = value
    return told


def _look_makers_of(formulas, sort, first_kinds, widths):
    """Looks at the makers of a judge's formulas, and at each formula."""
    seen = set()
    for maker, formula in formulas:
        if maker not in first_kinds:
            raise NoName(maker)
        if maker in seen:
            raise TwiceNamed(maker)
        seen.add(maker)
        for mention in _mentions_in(sort, formula):
            _look_mention(mention, maker, first_kinds[maker], widths)


def _mentions_in(sort, formula):
    """What the formula mentions, from left to right, each as an atom or an item of a text."""
    mentions = []
    if sort == "number":
        for form in formula[1]:
            mentions.extend([atom for k, atom in form])
    elif sort == "product":
        for _, nums, parts in formula:
            mentions.extend([("num", name, refs) for name, refs in nums])
            mentions.extend([("part", place) for place in parts])
    else:
        mentions.extend(formula)
    return mentions


def _look_mention(mention, maker, kinds, widths):
    if mention[0] == "num" and mention[1] not in widths:
        raise NoName(mention[1])
    if not _fits(mention, kinds, widths):
        raise BadRef(maker)


def _fits(mention, kinds, widths):
    """Whether the refs and the place of a mention are such as the kinds let."""
    if mention[0] == "num":
        places = sign_places(kinds)
        known = all([ref in places for ref in mention[2]])
        return known and len(mention[2]) == widths[mention[1]]
    if mention[0] == "part":
        return mention[1] in part_places(kinds)
    if mention[0] == "len":
        return mention[1] in run_places(kinds)
    if mention[0] == "at":
        return mention[1] in mark_places(kinds)
    # A one or a word mentions nothing.
    return True


def _is_let(ask, sorts):
    """Whether the ask may have its own judge and the asks directly in it."""
    if ask[0] == "then":
        return _may_lead(ask[1])
    if ask[0] == "against":
        return _may_lead(ask[1]) and _may_lead(ask[2])
    return all([sorts[judge] in SORTS_LET[ask[0]] for judge in own_judge(ask)])


def _may_lead(ask):
    return ask[0] in ("least", "greatest")
