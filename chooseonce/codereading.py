"""Reading the lines of a code, and putting them into the bodies in which they stand."""

from chooseonce.readers import has_mark, sum_from, word_in_hand

LENGTHS = ("n0", "n1")
SETTINGS = ("w", "v0", "v1", "i0", "i1")
ENDS = ("e0", "e1")


class CodeDraft:
    """What has been read of a code so far."""

    def __init__(self):
        # The heads of the loops and conditions that are not closed yet, and the bodies read so far.
        self._heads = []
        self._bodies = [[]]
        self._blanks = -2
        self._has_body = True

    def blanks_let(self):
        """A list of how many blanks may stand in front of the next line."""
        top = self._blanks + 2 if self._has_body else self._blanks
        return list(range(0, top + 1, 2))

    def put(self, blanks, statement):
        """Puts a statement, a for or an if without its body, with this many blanks in front."""
        self._close(blanks // 2)
        self._blanks = blanks
        self._has_body = statement[0] in ("for", "if")
        if self._has_body:
            self._heads.append(statement)
            self._bodies.append([])
        else:
            self._bodies[-1].append(statement)

    def finished(self):
        """All that has been read."""
        self._close(0)
        return tuple(self._bodies[0])

    def _close(self, deep):
        """Closes what is open, but for so many."""
        while len(self._heads) > deep:
            body = self._bodies.pop()
            self._bodies[-1].append(self._heads.pop() + (tuple(body),))


def statement_from(reader):
    """Takes the statement of a line, a for or an if without its body."""
    word = word_in_hand(reader)
    if word not in ("for", "if", "new", "look"):
        reader.bad()
    reader.take()
    if word == "for":
        statement = _loop_from(reader)
    elif word == "if":
        statement = ("if", _expression_from(reader))
    elif word == "new":
        statement = ("new", reader.take_name())
    else:
        lot = reader.take_name()
        statement = ("look", lot, reader.take_number())
    reader.done()
    return statement


def _loop_from(reader):
    """Takes what follows on the word for."""
    if word_in_hand(reader) in LENGTHS:
        reader.bad()
    variable = _variable_from(reader)
    reader.expect("from")
    lows = _expressions_from(reader)
    reader.expect("to")
    return ("for", variable, lows, _expressions_from(reader))


def _expressions_from(reader):
    found = [_expression_from(reader)]
    while has_mark(reader, ","):
        reader.take()
        found.append(_expression_from(reader))
    return tuple(found)


def _expression_from(reader):
    """Takes a sum; its integer is the sum of the items without a variable."""
    items = sum_from(reader, lambda sign: _item_from(reader, sign))
    integer = sum([k for variable, k in items if variable == ""])
    return (integer, tuple([item for item in items if item[0] != ""]))


def _item_from(reader, sign):
    """Takes an item: a pair of its variable, "" for none, and its k."""
    if reader.look()[0] != "number":
        return (_variable_from(reader), sign)
    k = sign * reader.take()
    if not has_mark(reader, "*"):
        return ("", k)
    reader.take()
    return (_variable_from(reader), k)


def _variable_from(reader):
    word = word_in_hand(reader)
    if word not in LENGTHS + SETTINGS + ENDS:
        reader.bad()
    reader.take()
    if word not in ENDS:
        return word
    reader.expect(".")
    return f"{word}.{reader.take_number()}"
