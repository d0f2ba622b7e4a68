"""Choosing one of each."""


def all_choices(lists):
    """A list of all tuples of one member of each list, the last one turning fastest."""
    choices = [()]
    for members in lists:
        choices = [begun + (member,) for begun in choices for member in members]
    return choices
