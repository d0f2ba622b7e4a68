"""Candidates and their values straight from [5] and [6], to compare with."""

from itertools import product


def divided(width, many):
    """All tuples of many numbers that add up to width, in sequence."""
    if many == 1:
        return [(width,)]
    return [(one, *rest) for one in range(width + 1) for rest in divided(width - one, many - 1)]


def stretches_under(rows):
    """All stretches within the rows."""
    pairs = [[(a, b) for b in range(len(row) + 1) for a in range(b + 1)] for row in rows]
    return list(product(*pairs))


def ways_of(program, lot):
    return dict(program[6])[lot]


def placed(stretch, cut, piece):
    """The stretch of the piece at this place."""
    return tuple((start + sum(widths[:piece]), start + sum(widths[:piece + 1]))
                 for (start, _), widths in zip(stretch, cut))


def text_at(rows, stretch, cut, ref):
    start, end = placed(stretch, cut, ref[0])[ref[1]]
    return rows[ref[1]][start:end]


def cut_holds(program, rows, way, stretch, cut):
    for at, (word, told) in enumerate(way[1]):
        if word == "plain":
            for row, mark in enumerate(told):
                text = text_at(rows, stretch, cut, (at, row))
                if mark[0] == "sign" and (len(text) != 1 or text not in (mark[1] or program[1])):
                    return False
                if mark[0] == "none" and text != "":
                    return False
                if mark[0] == "run" and not (
                        mark[1] <= len(text) and (mark[2] is None or len(text) <= mark[2])):
                    return False
    pairs = dict(program[3])
    return all(text_at(rows, stretch, cut, one) + text_at(rows, stretch, cut, other) in pairs[name]
               for name, one, other in way[2])


def candidates(program, rows, lot, stretch, height):
    """All candidates of at most this height, in their order."""
    found = []
    if height == 0:
        return found
    for number, way in enumerate(ways_of(program, lot)):
        parts = [at for at, piece in enumerate(way[1]) if piece[0] == "lot"]
        for cut in product(*[divided(end - start, len(way[1])) for start, end in stretch]):
            if cut_holds(program, rows, way, stretch, cut):
                below = [candidates(program, rows, way[1][at][1], placed(stretch, cut, at),
                                    height - 1) for at in parts]
                found.extend((lot, number, cut, chosen) for chosen in product(*below))
    return found


def judged(program, judge, rows, tree, stretch):
    """The value of a candidate by a judge."""
    lot, number, cut, below = tree
    way = ways_of(program, lot)[number]
    parts = [at for at, piece in enumerate(way[1]) if piece[0] == "lot"]
    values = {at: judged(program, judge, rows, tree, placed(stretch, cut, at))
              for at, tree in zip(parts, below)}
    sort, formulas = {entry[0]: entry[1:] for entry in program[7]}[judge]
    formula = dict(formulas)[way[0]]
    tell = lambda ref: text_at(rows, stretch, cut, ref)
    numbers = {entry[0]: (entry[2], dict(entry[3])) for entry in program[4]}

    def num(name, refs):
        other, entries = numbers[name]
        return entries.get("".join(tell(ref) for ref in refs), other)

    def atom(told):
        if told[0] == "one":
            return 1
        if told[0] == "part":
            return values[told[1]]
        return num(*told[1:]) if told[0] == "num" else len(tell(told[1]))

    if sort == "number":
        forms = [sum(k * atom(told) for k, told in form) for form in formula[1]]
        return {"one": sum, "min": min, "max": max}[formula[0]](forms)
    if sort == "product":
        total = 0
        for k, nums, places in formula:
            for name, refs in nums:
                k *= num(name, refs)
            for place in places:
                k *= values[place]
            total += k
        return total
    told = {"word": lambda word: word, "part": lambda place: values[place], "at": tell}
    return "".join(told[item[0]](item[1]) for item in formula)


def value(program, ask, rows, tree, stretch):
    """The value of a candidate by an ask."""
    if ask == ("first",):
        return tree
    if ask[0] == "each":
        return (judged(program, ask[1], rows, tree, stretch),
                value(program, ask[2], rows, tree, stretch))
    if ask[0] in ("then", "beside", "against"):
        return tuple(value(program, one, rows, tree, stretch) for one in ask[1:])
    return judged(program, ask[-1], rows, tree, stretch)


def nodes(program, tree, stretch):
    """Triples (path, tree, stretch) of all nodes of a candidate, rising by path."""
    lot, number, cut, below = tree
    way = ways_of(program, lot)[number]
    parts = [at for at, piece in enumerate(way[1]) if piece[0] == "lot"]
    found = [((), tree, stretch)]
    for count, (at, part) in enumerate(zip(parts, below)):
        for path, told, place in nodes(program, part, placed(stretch, cut, at)):
            found.append(((count, *path), told, place))
    return found
