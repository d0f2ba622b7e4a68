"""The text of a whole program."""

from chooseonce.shownparts import shown_ask, shown_formula, shown_way


def shown(program):
    """The text of the program, each line closed by a newline."""
    _, signs, rows, pairs, numbers, start, lots, judges, asks = program
    lines = [f"signs {signs}", f"rows {rows}"]
    for name, words in pairs:
        lines.append(" ".join(["pairs", name, *words]))
    for entry in numbers:
        lines.append(_shown_numbers(entry))
    lines.append(f"start {start}")
    for name, ways in lots:
        lines.append(f"lot {name}")
        lines.extend([shown_way(rows, way) for way in ways])
    for name, sort, formulas in judges:
        lines.append(f"judge {name} {sort}")
        lines.extend([_shown_for(sort, rows, maker, formula) for maker, formula in formulas])
    for name, ask in asks:
        lines.append(f"ask {name} = {shown_ask(ask)}")
    return "".join([line + "\n" for line in lines])


def _shown_numbers(entry):
    name, width, other, told = entry
    words = [f"numbers {name} {width} else {other}"]
    for word, integer in told:
        words.append(f"{word} {integer}")
    return " ".join(words)


def _shown_for(sort, rows, maker, formula):
    """The line of a formula; an empty one has no blank behind its maker."""
    text = shown_formula(sort, rows, formula)
    return f"for {maker}" if text == "" else f"for {maker} {text}"
