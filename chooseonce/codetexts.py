"""The texts of codes."""

from chooseonce.codereading import CodeDraft, statement_from
from chooseonce.errors import BadText
from chooseonce.readers import LineReader
from chooseonce.shownparts import shown_sum


def shown_code(code):
    """The text of the code, each line closed by a newline."""
    lines = []
    due = [(0, statement) for statement in code[::-1]]
    while due:
        deep, statement = due.pop()
        lines.append("  " * deep + _shown_head(statement) + "\n")
        # The last one is popped first.
        due.extend([(deep + 1, inner) for inner in _body_of(statement)[::-1]])
    return "".join(lines)


def read_code(text):
    """The code of a text."""
    draft = CodeDraft()
    for line, written in enumerate(text.split("\n")):
        if written.strip(" ") != "":
            reader = LineReader(line, written)
            blanks = reader.words[0][2]
            if blanks not in draft.blanks_let():
                raise BadText(line, blanks)
            draft.put(blanks, statement_from(reader))
    return draft.finished()


def _body_of(statement):
    return statement[-1] if statement[0] in ("for", "if") else ()


def _shown_head(statement):
    """The line of a statement, without those of its body."""
    if statement[0] == "for":
        lows = ", ".join([_shown_expression(one) for one in statement[2]])
        highs = ", ".join([_shown_expression(one) for one in statement[3]])
        return f"for {statement[1]} from {lows} to {highs}"
    if statement[0] == "if":
        return f"if {_shown_expression(statement[1])}"
    return " ".join([str(word) for word in statement])


def _shown_expression(expression):
    integer, pairs = expression
    items = [(k, variable) for variable, k in pairs]
    if integer != 0 or not pairs:
        items = [(integer, "")] + items
    return shown_sum(items)
