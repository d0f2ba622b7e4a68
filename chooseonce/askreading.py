"""Reading asks."""

from chooseonce.readers import LineReader, has_mark, word_in_hand

ONE = ("least", "greatest", "spread", "total", "names")
SOME = ("best", "ends", "within")
TWO = ("then", "beside", "against")


def read_ask(text):
    """The ask of one line that holds nothing else."""
    reader = LineReader(0, text)
    ask = ask_from(reader)
    reader.done()
    return ask


def ask_from(reader):
    """Takes one ask."""
    if not has_mark(reader, "("):
        return _basic_from(reader)
    reader.take()
    if word_in_hand(reader) == "each":
        reader.take()
        judge = reader.take_name()
        ask = ("each", judge, ask_from(reader))
    else:
        one = ask_from(reader)
        how = _two_from(reader)
        ask = (how, one, ask_from(reader))
    reader.expect(")")
    return ask


def _basic_from(reader):
    how = word_in_hand(reader)
    if how in ONE:
        reader.take()
        return (how, reader.take_name())
    if how in SOME:
        reader.take()
        many = _many_from(reader, how)
        return (how, many, reader.take_name())
    reader.expect("first")
    return ("first",)


def _many_from(reader, how):
    """Takes the number of an ask; only within may have 0."""
    if how != "within" and reader.look() == ("number", 0):
        reader.bad()
    return reader.take_number()


def _two_from(reader):
    if word_in_hand(reader) not in TWO:
        reader.bad()
    return reader.take()
