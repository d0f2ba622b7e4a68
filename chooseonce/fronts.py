"""The answers by asks that set two values against each other."""


def kept_pairs(ask, pairs):
    """The answer by an against to a bag of pairs that is not empty."""
    one = _turn_of(ask[1])
    other = _turn_of(ask[2])
    kept = []
    for first, second in sorted([(one * first, other * second) for first, second in pairs]):
        # All that are alike or better in the first half stand ahead.
        if not kept or second < kept[-1][1]:
            kept.append((first, second))
    return tuple([(one * first, other * second) for first, second in kept])


def _turn_of(ask):
    """What values are to be multiplied by, that less is better."""
    return 1 if ask[0] == "least" else -1
