"""Writes calls down as the numbers that are handed in, and reads the answers back call by call."""

from foldview.view import answers

NUMBERS = {name: number for number, name in enumerate(
    "look window text edit fold unfold goto up down left right scroll point shows rows at where".split())}


def packed(lines):
    """The lines of a text or an edit as numbers; a line is a text or a list of bytes."""
    numbers = []
    for line in lines:
        line_bytes = list(line.encode("latin-1")) if isinstance(line, str) else list(line)
        numbers.append(len(line_bytes))
        numbers.extend(line_bytes)
    return numbers


def call(name, *told):
    """One call's own numbers; the lines of a text or an edit come last, each told by itself."""
    plain = {"text": 0, "edit": 2}.get(name, len(told))
    return [NUMBERS[name]] + list(told[:plain]) + packed(told[plain:])


def handed(calls):
    """The list that is handed in, from calls that are tuples of a name and what is told."""
    numbers = []
    for name_and_told in calls:
        own = call(*name_and_told)
        numbers += [0, len(own)] + own
    return numbers


def parted(given):
    parts = []
    begin = 0
    while begin < len(given):
        behind = begin + 1 + given[begin]
        assert behind <= len(given), "fewer numbers are answered than told"
        parts.append(given[begin + 1:behind])
        begin = behind
    return parts


def ask(*calls):
    """What each of the calls answers."""
    parts = parted(answers(handed(calls)))
    assert len(parts) == len(calls), "not one answer a call"
    return parts


def last(*calls):
    """What the last of the calls answers."""
    return ask(*calls)[-1]


def row_list(answer, size):
    """The rows that shows (size 4) or rows (size 3) answers, as tuples."""
    rows = [tuple(answer[k:k + size]) for k in range(1, len(answer), size)]
    assert len(rows) == answer[0] and len(answer) == 1 + size * answer[0], answer
    return rows


def rows_of(line, look=None):
    """The rows of a text's only line."""
    calls = [("text", line)] + ([("look",) + tuple(look)] if look else []) + [("rows", 0)]
    return row_list(last(*calls), 3)
