"""The texts of ways, formulas, asks and refs."""


def shown_way(rows, way):
    """The text of a way, with its word way."""
    maker, pieces, tests = way
    inside = ", ".join([_shown_piece(piece) for piece in pieces])
    text = f"way {maker}({inside})"
    if tests:
        text = text + " when " + " and ".join([_shown_test(rows, test) for test in tests])
    return text


def shown_formula(sort, rows, formula):
    """The text of a formula, without for and its maker."""
    if sort == "number":
        return _shown_number(rows, formula)
    if sort == "product":
        return shown_sum([(k, _shown_factors(rows, nums, parts)) for k, nums, parts in formula])
    return " ".join([_shown_text_item(rows, item) for item in formula])


def shown_ask(ask):
    """The text of an ask."""
    how = ask[0]
    if how == "each":
        return f"(each {ask[1]} {shown_ask(ask[2])})"
    if how in ("then", "beside", "against"):
        return f"({shown_ask(ask[1])} {how} {shown_ask(ask[2])})"
    return " ".join([str(word) for word in ask])


def shown_ref(rows, ref):
    """The text of a ref; on one row its row is not shown."""
    piece, row = ref
    return str(piece) if rows == 1 else f"{piece}.{row}"


def shown_sum(items):
    """The text of pairs of an integer and a rest, "" for none, one behind the other."""
    text = ""
    for k, rest in items:
        if text == "":
            text = "-" if k < 0 else ""
        else:
            text = text + (" - " if k < 0 else " + ")
        text = text + _shown_times(abs(k), rest)
    return text


def _shown_piece(piece):
    if piece[0] == "lot":
        return piece[1]
    return " / ".join([_shown_mark(mark) for mark in piece[1]])


def _shown_mark(mark):
    if mark[0] == "run":
        most = "any" if mark[2] is None else str(mark[2])
        return f"run {mark[1]} {most}"
    if mark[0] == "sign" and mark[1] != "":
        return f"sign({mark[1]})"
    return mark[0]


def _shown_test(rows, test):
    name, one, other = test
    return f"{name} {shown_ref(rows, one)} {shown_ref(rows, other)}"


def _shown_number(rows, formula):
    how, forms = formula
    shown = [shown_sum([(k, _shown_atom(rows, atom)) for k, atom in form]) for form in forms]
    if how == "one":
        return shown[0]
    inside = ", ".join(shown)
    return f"{how}({inside})"


def _shown_times(k, rest):
    if rest == "":
        return str(k)
    return rest if k == 1 else f"{k} * {rest}"


def _shown_atom(rows, atom):
    """The text of an atom; "" for that which stands for the number alone."""
    if atom[0] == "one":
        return ""
    if atom[0] == "part":
        return f"x{atom[1]}"
    if atom[0] == "len":
        return f"len {shown_ref(rows, atom[1])}"
    return _shown_num(rows, atom[1], atom[2])


def _shown_factors(rows, nums, parts):
    shown = [_shown_num(rows, name, refs) for name, refs in nums]
    return " * ".join(shown + [f"x{place}" for place in parts])


def _shown_num(rows, name, refs):
    inside = ", ".join([shown_ref(rows, ref) for ref in refs])
    return f"{name}[{inside}]"


def _shown_text_item(rows, item):
    if item[0] == "word":
        return '"' + item[1] + '"'
    if item[0] == "part":
        return f"x{item[1]}"
    return f"at {shown_ref(rows, item[1])}"
