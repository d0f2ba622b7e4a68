"""How many spots there are, and how many looks it takes to work one out."""

from chooseonce.counting import cuts_by_widths
from chooseonce.plans import check_plan
from chooseonce.spots import froms_let, lets_widths, widths_let


def many_spots(shape, lengths, lot, widths):
    """How many spots of the lot have these widths, found without listing them."""
    if not lets_widths(shape, lot, widths):
        return 0
    many = 1
    for row in range(len(lengths)):
        low, high = froms_let(shape, lengths, lot, widths, row)
        many = many * max(0, high - low + 1)
    return many


def work_of(shape, plan, lot, widths):
    """How many looks it takes, by the plan, to work out a spot of the lot with these widths."""
    check_plan(shape, plan)
    counted = counted_ways(shape, plan, widths)
    works = works_by(shape, plan, counted, widths)
    return _work_at(plan, counted[lot], works, widths)


def works_by(shape, plan, counted, lengths):
    """A dict from pairs (lot, widths), widths no greater than the lengths, to their work."""
    due = []
    for lot in shape.useful:
        for widths in widths_let(shape, lengths, lot):
            # The spots of parts have less width in all, or else a lower rank.
            due.append((sum(widths), shape.rank(lot), lot, widths))
    works = {}
    for _, _, lot, widths in sorted(due):
        works[(lot, widths)] = _work_at(plan, counted[lot], works, widths)
    return works


def counted_ways(shape, plan, lengths):
    """A dict from each useful lot to a list with, for each live way, a pair.

    Its first half counts the cuts, by widths; its second half is a list of pairs (lot, counts),
    one for each part that is not kept: the counts are those of all other pieces together.
    """
    counted = {}
    for lot in shape.useful:
        ways = [shape.book.ways(lot)[number] for number in shape.live(lot)]
        counted[lot] = [_counted_way(shape, plan, way[1], lengths) for way in ways]
    return counted


def _counted_way(shape, plan, pieces, lengths):
    others = []
    for place, piece in enumerate(pieces):
        if piece[0] == "lot" and piece[1] not in plan:
            left = pieces[:place] + pieces[place + 1:]
            others.append((piece[1], cuts_by_widths(shape, left, lengths)))
    return (cuts_by_widths(shape, pieces, lengths), others)


def _work_at(plan, ways, works, widths):
    """The work at these widths by counted ways; works has that of all spots of parts."""
    looks = 0
    for counts, others in ways:
        looks += counts.get(widths, 0)
        for lot, left in others:
            if lot not in plan:
                looks += _work_of_part(lot, left, works, widths)
    return looks


def _work_of_part(lot, counts, works, widths):
    """The looks at the spots of one part, over all cuts; counts are those of the other pieces."""
    looks = 0
    for taken in counts:
        left = tuple([width - one for width, one in zip(widths, taken)])
        looks += counts[taken] * works.get((lot, left), 0)
    return looks
