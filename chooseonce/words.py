"""The words of a line, and which of them are names."""

from chooseonce.errors import BadText

LETTERS = "abcdefghijklmnopqrstuvwxyz"
FIGURES = "0123456789"
MARKS = "()[],/=*+-."

LONGEST_WORD = 16
LONGEST_NUMBER = 40
LONGEST_QUOTE = 8

RESERVED = (
    "signs", "rows", "pairs", "numbers", "else", "start", "lot", "way", "when", "and",
    "judge", "number", "product", "text", "for", "ask", "sign", "none", "run", "any",
    "min", "max", "len", "at", "least", "greatest", "best", "ends", "within", "spread",
    "total", "names", "first", "then", "each", "beside", "against",
)


def words_in(line, text):
    """The words of a line, as triples (kind, value, place)."""
    words = []
    at = 0
    while at < len(text):
        end = _end_of(text, at)
        if text[at] != " ":
            words.append(_word_at(line, at, text[at:end]))
        at = end
    words.append(("end", None, len(text)))
    return tuple(words)


def is_name(word):
    """Whether the string may be a name."""
    if word == "" or word[0] not in LETTERS or len(word) > LONGEST_WORD:
        return False
    if not has_only(word, LETTERS + FIGURES):
        return False
    return word not in RESERVED and not is_part(word)


def is_part(word):
    """Whether the string is x and one figure alone, which names the place of a part."""
    return len(word) == 2 and word[0] == "x" and word[1] in FIGURES


def has_only(word, characters):
    """Whether the string has no other characters than these."""
    return all([character in characters for character in word])


def _end_of(text, at):
    """The place behind what begins at this place."""
    if text[at] == '"':
        closing = text.find('"', at + 1)
        return len(text) if closing == -1 else closing + 1
    end = at + 1
    if text[at] in LETTERS + FIGURES:
        while end < len(text) and text[end] in LETTERS + FIGURES:
            end += 1
    return end


def _word_at(line, at, cut):
    """The triple for what was cut from the line at this place."""
    if cut in MARKS:
        return ("mark", cut, at)
    if cut[0] in LETTERS and len(cut) <= LONGEST_WORD:
        return ("word", cut, at)
    if _is_number(cut):
        return ("number", int(cut), at)
    if _is_quote(cut):
        return ("quote", cut[1:-1], at)
    raise BadText(line, at)


def _is_number(cut):
    if not has_only(cut, FIGURES) or len(cut) > LONGEST_NUMBER:
        return False
    return cut == "0" or cut[0] != "0"


def _is_quote(cut):
    """Whether it is a quote that is closed and short enough."""
    # A lone quotation mark would else be taken for its own closing one.
    if len(cut) < 2 or len(cut) > LONGEST_QUOTE + 2:
        return False
    return cut[0] == '"' and cut[-1] == '"'
