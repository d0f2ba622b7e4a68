"""Ready measures of one or two rows: each is a table of small answers."""

from chooseonce.errors import BadRows
from chooseonce.words import has_only


def distance(signs, one, other, gap, change):
    """The least cost of turning one into the other; gap is that of a sign put in or taken out."""
    _check_rows(signs, (one, other))
    # The costs of turning nothing of one into what other begins with.
    costs = [gap * many for many in range(len(other) + 1)]
    for sign in one:
        grown = [costs[0] + gap]
        for place, wanted in enumerate(other):
            turned = costs[place] + (0 if sign == wanted else change)
            grown.append(min(turned, costs[place + 1] + gap, grown[place] + gap))
        costs = grown
    return costs[-1]


def longest(signs, one, other):
    """The greatest length of a string that both become if signs are taken out."""
    _check_rows(signs, (one, other))
    lengths = [0] * (len(other) + 1)
    for sign in one:
        grown = [0]
        for place, wanted in enumerate(other):
            alike = lengths[place] + (1 if sign == wanted else 0)
            grown.append(max(alike, lengths[place + 1], grown[place]))
        lengths = grown
    return lengths[-1]


def nested(signs, words, text):
    """The greatest number of pairs of places whose signs are words, none crossing another one."""
    _check_rows(signs, (text,))
    # By from and to: the greatest number for what stands from from up to, without, to.
    most = {}
    for width in range(len(text) + 1):
        for start in range(len(text) - width + 1):
            most[(start, start + width)] = _most_within(words, text, start, start + width, most)
    return most[(0, len(text))]


def _most_within(words, text, start, end, most):
    """The greatest number for a stretch of the text; most has those of all narrower ones."""
    if start == end:
        return 0
    # The first place is in no pair, or in one with any later place.
    found = [most[(start + 1, end)]]
    for place in range(start + 1, end):
        if text[start] + text[place] in words:
            found.append(1 + most[(start + 1, place)] + most[(place + 1, end)])
    return max(found)


def _check_rows(signs, rows):
    for row, text in enumerate(rows):
        if not isinstance(text, str) or not has_only(text, signs):
            raise BadRows(row)
