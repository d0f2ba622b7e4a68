"""Reading the formulas of judges."""

from chooseonce.readers import LineReader, has_mark, sum_from, word_in_hand
from chooseonce.wayreading import ref_from
from chooseonce.words import is_part


def read_formula(sort, rows, text):
    """The formula of one line that holds nothing else."""
    return formula_from(LineReader(0, text), sort, rows)


def formula_from(reader, sort, rows):
    """Takes a formula of this sort, which ends with its line."""
    if sort == "number":
        formula = _number_formula(reader, rows)
    elif sort == "product":
        formula = sum_from(reader, lambda sign: _term_from(reader, rows, sign))
    else:
        formula = _text_formula(reader, rows)
    reader.done()
    return formula


def _number_formula(reader, rows):
    how = word_in_hand(reader)
    if how not in ("min", "max"):
        return ("one", (_form_from(reader, rows),))
    reader.take()
    reader.expect("(")
    forms = [_form_from(reader, rows)]
    reader.expect(",")
    forms.append(_form_from(reader, rows))
    if has_mark(reader, ","):
        reader.take()
        forms.append(_form_from(reader, rows))
    reader.expect(")")
    return (how, tuple(forms))


def _form_from(reader, rows):
    return sum_from(reader, lambda sign: _item_from(reader, rows, sign))


def _item_from(reader, rows, sign):
    """Takes an item of a form."""
    if reader.look()[0] != "number":
        return (sign, _atom_from(reader, rows))
    k = sign * reader.take()
    if not has_mark(reader, "*"):
        return (k, ("one",))
    reader.take()
    return (k, _atom_from(reader, rows))


def _atom_from(reader, rows):
    word = word_in_hand(reader)
    if is_part(word):
        return ("part", _part_from(reader))
    if word == "len":
        reader.take()
        return ("len", ref_from(reader, rows))
    name, refs = _num_from(reader, rows)
    return ("num", name, refs)


def _term_from(reader, rows, sign):
    """Takes a triple of a product's formula."""
    k = sign
    nums = []
    places = []
    if reader.look()[0] == "number":
        k = sign * reader.take()
    else:
        _take_factor(reader, rows, nums, places)
    while has_mark(reader, "*"):
        reader.take()
        _take_factor(reader, rows, nums, places)
    return (k, tuple(nums), tuple(sorted(places)))


def _take_factor(reader, rows, nums, places):
    """Takes a factor and puts it behind the nums or the places."""
    if is_part(word_in_hand(reader)):
        places.append(_part_from(reader))
    else:
        nums.append(_num_from(reader, rows))


def _part_from(reader):
    """Takes a part; returns its place."""
    return int(reader.take()[1])


def _num_from(reader, rows):
    """Takes the name of numbers and the refs behind it."""
    name = reader.take_name()
    reader.expect("[")
    refs = [ref_from(reader, rows)]
    while has_mark(reader, ","):
        reader.take()
        refs.append(ref_from(reader, rows))
    reader.expect("]")
    return (name, tuple(refs))


def _text_formula(reader, rows):
    """Takes items as long as there are any."""
    items = []
    while _has_text_item(reader):
        items.append(_text_item(reader, rows))
    return tuple(items)


def _has_text_item(reader):
    word = word_in_hand(reader)
    return reader.look()[0] == "quote" or is_part(word) or word == "at"


def _text_item(reader, rows):
    if reader.look()[0] == "quote":
        return ("word", reader.take())
    if is_part(word_in_hand(reader)):
        return ("part", _part_from(reader))
    reader.expect("at")
    return ("at", ref_from(reader, rows))
