"""Which spots a spot needs, and in which orders spots may be worked out."""

from chooseonce.partspots import PartSpots
from chooseonce.planning import room_of
from chooseonce.plans import check_plan
from chooseonce.spots import in_order, is_spot, spots_of, wave_key


class OrderSoFar:
    """The spots that stand in an order so far."""

    def __init__(self, shape, plan):
        self.plan = plan
        self._parts = PartSpots(shape)
        self._standing = {}
        # Spots that are not kept, all needs of which stand: none of them is gone through twice.
        self._ready = {}

    def has(self, spot):
        """Whether the spot stands in it."""
        return spot in self._standing

    def go_on(self, spot):
        """Puts the spot, all needs of which stand, behind those that stand."""
        self._standing[spot] = True

    def has_needs_of(self, spot):
        """Whether all needs of the spot stand."""
        found = {}
        due = [spot]
        while due:
            one = due.pop()
            for part in self._parts.asked_by(one):
                if part[0] in self.plan:
                    if part not in self._standing:
                        return False
                elif part not in self._ready and part not in found:
                    found[part] = True
                    due.append(part)
        for part in found:
            self._ready[part] = True
        return True


def needs_of(shape, lengths, plan, spot):
    """The kept spots that are asked for when the spot is worked out, each once, in order."""
    check_plan(shape, plan)
    parts = PartSpots(shape)
    asked = {}
    due = [spot]
    while due:
        one = due.pop()
        for part in parts.asked_by(one):
            if part not in asked and part[0] not in plan:
                due.append(part)
            asked[part] = True
    return in_order(shape, [one for one in asked if one[0] in plan])


def order_fits(shape, lengths, plan, order):
    """None if it is an order by the plan, else the place of what is wrong in it, and why."""
    check_plan(shape, plan)
    so_far = OrderSoFar(shape, plan)
    for number, spot in enumerate(order):
        if spot[0] not in plan or not is_spot(shape, lengths, spot):
            return (number, "spot")
        if so_far.has(spot):
            return (number, "twice")
        if not so_far.has_needs_of(spot):
            return (number, "early")
        so_far.go_on(spot)
    # All that stand are unlike kept spots, so their number tells whether one is missing.
    return (len(order), "left") if len(order) < room_of(shape, lengths, plan) else None


def waves_of(shape, lengths):
    """The spots, those with alike widths added and rank together, all in their order."""
    waves = {}
    for spot in spots_of(shape, lengths):
        waves.setdefault(wave_key(shape, spot), []).append(spot)
    return tuple([tuple(waves[key]) for key in waves])
