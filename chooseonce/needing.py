"""Which spots a spot needs, and in which orders spots may be worked out."""

from chooseonce.looks import Looks
from chooseonce.plans import check_plan
from chooseonce.spots import in_order, is_spot, part_spots, spots_of, wave_key


def needs_of(shape, lengths, plan, spot):
    """The kept spots that are asked for when the spot is worked out, each once, in order."""
    check_plan(shape, plan)
    looks = Looks(shape)
    asked = {}
    due = [spot]
    while due:
        one = due.pop()
        for number, cut in looks.every(one):
            for part in part_spots(shape, one, number, cut):
                if part not in asked and part[0] not in plan:
                    due.append(part)
                asked[part] = True
    return in_order(shape, [one for one in asked if one[0] in plan])


def order_fits(shape, lengths, plan, order):
    """None if it is an order by the plan, else the place of what is wrong in it, and why."""
    check_plan(shape, plan)
    places = {}
    for number, spot in enumerate(order):
        places.setdefault(spot, number)
    needed = _needed_places(shape, lengths, plan, places, len(order))
    for number, spot in enumerate(order):
        if spot[0] not in plan or not is_spot(shape, lengths, spot):
            return (number, "spot")
        if places[spot] < number:
            return (number, "twice")
        if needed[spot] >= number:
            return (number, "early")
    missing = [spot for spot in needed if spot[0] in plan and spot not in places]
    return (len(order), "left") if missing else None


def waves_of(shape, lengths):
    """The spots, those with alike widths added and rank together, all in their order."""
    waves = {}
    for spot in spots_of(shape, lengths):
        waves.setdefault(wave_key(shape, spot), []).append(spot)
    return tuple([tuple(waves[key]) for key in waves])


def _needed_places(shape, lengths, plan, places, missing):
    """A dict from each spot to the last of the places of its needs, -1 without a need.

    places tells the places of spots in an order; missing is the place of those not in it.
    """
    looks = Looks(shape)
    needed = {}
    for spot in spots_of(shape, lengths):
        last = -1
        for number, cut in looks.every(spot):
            for part in part_spots(shape, spot, number, cut):
                # A part that is not kept needs what it is worked out from.
                place = places.get(part, missing) if part[0] in plan else needed[part]
                last = max(last, place)
        needed[spot] = last
    return needed
