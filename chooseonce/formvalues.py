"""The values of formulas at one node."""

from chooseonce.dresses import text_at


def form_value(book, kinds, form, dress, given):
    """The value of a form."""
    return sum([k * _atom_value(book, kinds, atom, dress, given) for k, atom in form])


def number_value(book, kinds, formula, dress, given):
    """The value of a formula of sort "number"."""
    how, forms = formula
    values = [form_value(book, kinds, form, dress, given) for form in forms]
    return max(values) if how == "max" else min(values)


def product_value(book, kinds, formula, dress, given):
    """The value of a formula of sort "product"."""
    return sum([_triple_value(book, kinds, triple, dress, given) for triple in formula])


def text_value(book, kinds, formula, dress, given):
    """The value of a formula of sort "text"."""
    return "".join([_item_text(kinds, item, dress, given) for item in formula])


def _atom_value(book, kinds, atom, dress, given):
    if atom[0] == "one":
        return 1
    if atom[0] == "part":
        return _value_of_part(kinds, atom[1], given)
    if atom[0] == "num":
        return _num_value(book, atom[1], atom[2], dress)
    return len(text_at(dress, atom[1]))


def _triple_value(book, kinds, triple, dress, given):
    """The integer times all nums, times the parts, one factor for each time one stands there."""
    value, nums, parts = triple
    for name, refs in nums:
        value = value * _num_value(book, name, refs, dress)
    for place in parts:
        value = value * _value_of_part(kinds, place, given)
    return value


def _item_text(kinds, item, dress, given):
    if item[0] == "word":
        return item[1]
    if item[0] == "part":
        return _value_of_part(kinds, item[1], given)
    return text_at(dress, item[1])


def _num_value(book, name, refs, dress):
    """The integer that numbers tell for the texts at the refs put together."""
    return book.number_for(name, "".join([text_at(dress, ref) for ref in refs]))


def _value_of_part(kinds, place, given):
    # Part by part: as many stand ahead of it as there are parts ahead of its place.
    return given[kinds[:place].count("lot")]
