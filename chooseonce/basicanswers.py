"""The answers by basic asks."""


def basic_answer(ask, bag):
    """The answer by a basic ask to a bag that is not empty."""
    how = ask[0]
    if how == "greatest":
        return max(bag)
    if how == "total":
        return sum(bag)
    if how == "spread":
        return counted([(value, 1) for value in bag])
    if how == "names":
        return tuple(sorted(set(bag)))
    if how == "best":
        return tuple(sorted(bag)[:ask[1]])
    if how == "ends":
        return _ends(ask[1], sorted(bag))
    if how == "within":
        top = min(bag) + ask[1]
        return tuple(sorted([value for value in bag if value <= top]))
    # The first candidate is the least one as Python sorts.
    return min(bag)


def counted(pairs):
    """Pairs (value, how often), rising, of such pairs in any sequence, values alike or not."""
    many = {}
    for value, often in pairs:
        many[value] = many.get(value, 0) + often
    return tuple([(value, many[value]) for value in sorted(many)])


def _ends(many, values):
    if len(values) <= 2 * many:
        return tuple(values)
    return tuple(values[:many] + values[-many:])
