"""What stands in an ask."""


def judges_of(ask):
    """The judges of an ask, from left to right, as often as they stand."""
    judges = []
    for one in all_asks(ask):
        judges.extend(own_judge(one))
    return tuple(judges)


def asks_in(ask):
    """The asks that stand directly in an ask."""
    if ask[0] == "each":
        return (ask[2],)
    if ask[0] in ("then", "beside", "against"):
        return (ask[1], ask[2])
    return ()


def has_first(ask):
    """How many times ("first",) stands in an ask, at any depth."""
    return len([one for one in all_asks(ask) if one[0] == "first"])


def all_asks(ask):
    """The ask and all that stand in it, from left to right, each ahead of those in it."""
    found = []
    due = [ask]
    while due:
        one = due.pop()
        found.append(one)
        due.extend(asks_in(one)[::-1])
    return found


def own_judge(ask):
    """The judge of the ask itself: a tuple of it alone, or of nothing."""
    if ask[0] == "each":
        return (ask[1],)
    if ask[0] in ("first", "then", "beside", "against"):
        return ()
    return (ask[-1],)
