"""The text with its folds, its point and its window, and how the window goes along with the point."""

from foldview.folds import hides, is_hidden
from foldview.rows import Look, line_rows, place_column, place_for


class State:
    """All that the calls are about; a new one is as it is ahead of the first call."""

    def __init__(self):
        self.look = Look(20, 8, 0, 0, 1)
        self.lines = [[]]
        self.folds = []
        self.line = 0
        self.place = 0
        self.wished = None
        self.high = 10
        self.margin = 0
        self.top = 0


def seen_lines(state):
    return [number for number in range(len(state.lines)) if not is_hidden(state.folds, number)]


def seen_rows(state):
    rows = []
    for number in seen_lines(state):
        rows.extend(line_rows(state.look, number, state.lines[number]))
    return rows


def row_number(rows, line, place):
    """Which one of the rows has a place of a line that is seen."""
    found = 0
    for number, row in enumerate(rows):
        # The line's end has no byte behind it, so a row is known by where it begins.
        if row.line == line and row.begin <= place:
            found = number
    return found


def place_answer(state, rows, line, place):
    number = row_number(rows, line, place)
    column = place_column(state.look, state.lines[line], rows[number], place)
    return [number - state.top, column]


def point_answer(state, rows):
    return [state.line, state.place] + place_answer(state, rows, state.line, state.place)


def row_place(state, row, column):
    return place_for(state.look, state.lines[row.line], row, column)


def real_margin(state):
    return min(state.margin, (state.high - 1) // 2)


def last_top(state, rows):
    return max(0, len(rows) - state.high)


def scrolled(state):
    """Scrolls no more than the point needs, and answers the point."""
    rows = seen_rows(state)
    number = row_number(rows, state.line, state.place)
    margin = real_margin(state)
    top = min(state.top, max(0, number - margin))
    top = max(top, number + margin + 1 - state.high)
    state.top = min(top, last_top(state, rows))
    return point_answer(state, rows)


def unwished(state):
    """Scrolls with no column wished any more, and answers the point."""
    state.wished = None
    return scrolled(state)


def put_into(state, rows, number):
    if state.wished is None:
        own = rows[row_number(rows, state.line, state.place)]
        state.wished = place_column(state.look, state.lines[state.line], own, state.place)
    state.place = row_place(state, rows[number], state.wished)
    state.line = rows[number].line


def bring_point_out(state):
    """Puts a point that is hidden on the first line of the fold that hides it, until it is seen."""
    # A fold that hides the first line of another begins ahead of that, so one walk backwards does.
    for fold in sorted(state.folds, reverse=True):
        if hides(fold, state.line):
            state.line = fold[0]
            state.place = min(state.place, len(state.lines[state.line]))
