"""Plans: which lots are kept."""

from chooseonce.errors import BadPlan


def check_plan(shape, plan):
    """BadPlan for the first entry that is no useful lot, or out of the program's sequence."""
    last = -1
    for lot in plan:
        if lot not in shape.useful or shape.place(lot) <= last:
            raise BadPlan(lot)
        last = shape.place(lot)
