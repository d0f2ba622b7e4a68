"""What runs take by their plans, and the plan that takes least."""

from chooseonce.errors import TooLong
from chooseonce.plans import check_plan
from chooseonce.prices import counted_ways, many_spots, works_by
from chooseonce.spots import whole_spot, widths_let
from chooseonce.stretches import widths_of

MOST_LOOKS = 400000


def all_kept(shape):
    """The plan of all useful lots."""
    return shape.useful


def price_of(shape, lengths, plan):
    """How many looks a run by the plan takes over rows of these lengths."""
    check_plan(shape, plan)
    return _price_by(shape, lengths, plan, counted_ways(shape, plan, lengths))


def check_price(shape, lengths, plan):
    """TooLong if a run by the plan takes more looks than are let."""
    price = price_of(shape, lengths, plan)
    if price > MOST_LOOKS:
        raise TooLong(price)


def price_left(shape, lengths, plan, known):
    """What is left of the price if some kept spots, a list, are known and not worked out."""
    works = works_by(shape, plan, counted_ways(shape, plan, lengths), lengths)
    saved = [works[(lot, widths_of(stretch))] for lot, stretch in known]
    return price_of(shape, lengths, plan) - sum(saved)


def room_of(shape, lengths, plan):
    """How many kept spots a run by the plan has."""
    check_plan(shape, plan)
    return sum([_room_of_lot(shape, lengths, lot) for lot in plan])


def plan_for(shape, lengths, most):
    """The plan of the least price, then the least room, of those with at most this much room."""
    counted = counted_ways(shape, (), lengths)
    found = []
    for plan in _plans_of(shape):
        room = room_of(shape, lengths, plan)
        if room <= most:
            found.append((_price_by(shape, lengths, plan, counted), room, plan))
    return min(found)[2]


def _plans_of(shape):
    """A list of all plans."""
    plans = [()]
    for lot in shape.useful:
        plans.extend([plan + (lot,) for plan in plans])
    return plans


def _price_by(shape, lengths, plan, counted):
    """The price; counted has the cuts of all ways, and of all parts that are not kept."""
    works = works_by(shape, plan, counted, lengths)
    looks = 0
    for lot in plan:
        for widths in widths_let(shape, lengths, lot):
            looks += many_spots(shape, lengths, lot, widths) * works[(lot, widths)]
    whole = whole_spot(shape, lengths)
    if whole is not None and whole[0] not in plan:
        looks += works[(whole[0], widths_of(whole[1]))]
    return looks


def _room_of_lot(shape, lengths, lot):
    """How many spots of the lot there are."""
    every = widths_let(shape, lengths, lot)
    return sum([many_spots(shape, lengths, lot, widths) for widths in every])
