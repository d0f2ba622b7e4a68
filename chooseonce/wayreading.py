"""Reading a way, its pieces, and refs."""

from chooseonce.readers import LineReader, has_mark, word_in_hand


def read_way(rows, text):
    """The way of one line."""
    reader = LineReader(0, text)
    way = way_from(reader, rows)
    reader.done()
    return way


def way_from(reader, rows):
    """Takes one way, with its word way."""
    reader.expect("way")
    maker = reader.take_name()
    reader.expect("(")
    pieces = [piece_from(reader, rows)]
    while has_mark(reader, ","):
        reader.take()
        pieces.append(piece_from(reader, rows))
    reader.expect(")")
    return (maker, tuple(pieces), _tests_from(reader, rows))


def piece_from(reader, rows):
    """Takes one piece: a lot's name, or a mark for each row."""
    if word_in_hand(reader) not in ("sign", "none", "run"):
        return ("lot", reader.take_name())
    marks = [_mark_from(reader)]
    while len(marks) < rows:
        reader.expect("/")
        marks.append(_mark_from(reader))
    return ("plain", tuple(marks))


def ref_from(reader, rows):
    """Takes one ref; on one row its row is not written."""
    if rows == 1:
        return (reader.take_number(), 0)
    piece = reader.take_number()
    reader.expect(".")
    if reader.look() not in (("number", 0), ("number", 1)):
        reader.bad()
    return (piece, reader.take())


def _tests_from(reader, rows):
    """Takes the tests of a way, if there are any."""
    if word_in_hand(reader) != "when":
        return ()
    reader.take()
    tests = [_test_from(reader, rows)]
    while word_in_hand(reader) == "and":
        reader.take()
        tests.append(_test_from(reader, rows))
    return tuple(tests)


def _test_from(reader, rows):
    name = reader.take_name()
    one = ref_from(reader, rows)
    return (name, one, ref_from(reader, rows))


def _mark_from(reader):
    word = word_in_hand(reader)
    if word == "sign":
        reader.take()
        return ("sign", _letters_from(reader))
    if word == "none":
        reader.take()
        return ("none",)
    reader.expect("run")
    least = reader.take_number()
    return ("run", least, _most_from(reader, least))


def _letters_from(reader):
    """Takes letters in brackets; "" if there is no bracket."""
    if not has_mark(reader, "("):
        return ""
    reader.take()
    letters = reader.take_letters()
    reader.expect(")")
    return letters


def _most_from(reader, least):
    """Takes the greatest width of a run; None for any."""
    if word_in_hand(reader) == "any":
        reader.take()
        return None
    kind, value = reader.look()
    if kind == "number" and value < least:
        reader.bad()
    return reader.take_number()
