"""The shorts of answers."""


def short_of(ask, answer):
    """The short of an answer, not None, by a basic ask or an against."""
    if ask[0] == "spread":
        short = []
        for value, often in answer:
            short.extend([value] * often)
        return tuple(short)
    return short_members(ask, answer)


def short_members(ask, answer):
    """The same, but for spread the pairs as they stand, since values may stand very often."""
    return (answer,) if ask[0] in ("least", "greatest", "total", "first") else tuple(answer)
