"""The calls on a text's view: each takes the state and what is told, and gives back what it answers."""

from foldview.folds import clashes, folds_after_edit, has_line, hides, is_hidden
from foldview.rows import Look, line_rows
from foldview.state import State, bring_point_out, last_top, place_answer, point_answer, put_into
from foldview.state import real_margin, row_number, row_place, scrolled, seen_lines, seen_rows, unwished

LINE_FEED = 10

MOST_LINES = 30
MOST_BYTES = 120
MOST_FOLDS = 12
MOST_STEPS = 100

# The refusals; refused() gives them their sign.
WRONG = 1
CLASH = 4
FULL = 5
MISSING = 6
OUTSIDE = 7


def refused(number):
    return [-number]


def call_look(state, told):
    look = Look(told[0], told[1], told[2], told[3], told[4])
    if not 4 <= look.wide <= 100 or not 1 <= look.tab <= 16:
        return refused(WRONG)
    if look.more > 100 or look.hang > 1 or look.words > 1:
        return refused(WRONG)
    state.look = look
    return unwished(state)


def call_window(state, told):
    if not 1 <= told[0] <= 60 or told[1] > 60:
        return refused(WRONG)
    state.high = told[0]
    state.margin = told[1]
    return scrolled(state)


def split_lines(told):
    lines = []
    begin = 0
    while begin < len(told):
        behind = begin + 1 + told[begin]
        lines.append(told[begin + 1:behind])
        begin = behind
    return lines


def is_line(line):
    if len(line) > MOST_BYTES:
        return False
    for byte in line:
        if byte == LINE_FEED or byte > 255:
            return False
    return True


def are_lines(lines):
    return all([is_line(line) for line in lines])


def call_text(state, told):
    lines = split_lines(told)
    if not 1 <= len(lines) <= MOST_LINES or not are_lines(lines):
        return refused(WRONG)
    state.lines = lines
    state.folds = []
    state.line = 0
    state.place = 0
    state.top = 0
    return unwished(state)


def move_point_by_edit(state, begin, behind, grown):
    if state.line >= behind:
        state.line += grown
    elif state.line >= begin:
        state.line = min(begin, len(state.lines) - 1)
        state.place = 0
        # Where the text's end was taken away, the last line left may be hidden.
        bring_point_out(state)


def call_edit(state, told):
    begin = told[0]
    behind = told[1]
    lines = split_lines(told[2:])
    if behind < begin or behind > len(state.lines) or not are_lines(lines):
        return refused(WRONG)
    grown = len(lines) - (behind - begin)
    if not 1 <= len(state.lines) + grown <= MOST_LINES:
        return refused(FULL)
    state.lines = state.lines[:begin] + lines + state.lines[behind:]
    state.folds = folds_after_edit(state.folds, begin, behind, grown)
    move_point_by_edit(state, begin, behind, grown)
    return unwished(state)


def call_fold(state, told):
    fold = (told[0], told[1])
    if fold[1] - fold[0] < 2 or fold[1] > len(state.lines):
        return refused(WRONG)
    for other in state.folds:
        if clashes(fold, other):
            return refused(CLASH)
    if len(state.folds) >= MOST_FOLDS:
        return refused(FULL)
    state.folds.append(fold)
    bring_point_out(state)
    return unwished(state)


def call_unfold(state, told):
    if told[0] >= len(state.lines):
        return refused(WRONG)
    kept = [fold for fold in state.folds if not has_line(fold, told[0])]
    if len(kept) == len(state.folds):
        return refused(MISSING)
    state.folds = kept
    return unwished(state)


def is_place(state, line, place):
    return line < len(state.lines) and place <= len(state.lines[line])


def call_goto(state, told):
    if not is_place(state, told[0], told[1]):
        return refused(WRONG)
    state.folds = [fold for fold in state.folds if not hides(fold, told[0])]
    state.line = told[0]
    state.place = told[1]
    return unwished(state)


def go_rows_on(state, count):
    rows = seen_rows(state)
    number = row_number(rows, state.line, state.place) + count
    put_into(state, rows, min(max(number, 0), len(rows) - 1))
    return scrolled(state)


def call_up(state, told):
    if told[0] > MOST_STEPS:
        return refused(WRONG)
    return go_rows_on(state, -told[0])


def call_down(state, told):
    if told[0] > MOST_STEPS:
        return refused(WRONG)
    return go_rows_on(state, told[0])


def step_left(state, seen):
    before = seen.index(state.line) - 1
    if state.place > 0:
        state.place -= 1
    elif before >= 0:
        state.line = seen[before]
        state.place = len(state.lines[state.line])


def step_right(state, seen):
    after = seen.index(state.line) + 1
    if state.place < len(state.lines[state.line]):
        state.place += 1
    elif after < len(seen):
        state.line = seen[after]
        state.place = 0


def call_left(state, told):
    if told[0] > MOST_STEPS:
        return refused(WRONG)
    seen = seen_lines(state)
    for step in range(told[0]):
        step_left(state, seen)
    return unwished(state)


def call_right(state, told):
    if told[0] > MOST_STEPS:
        return refused(WRONG)
    seen = seen_lines(state)
    for step in range(told[0]):
        step_right(state, seen)
    return unwished(state)


def scroll_top(state, rows, back, count):
    if back == 1:
        return max(0, state.top - count)
    return min(last_top(state, rows), state.top + count)


def first_free_row(state):
    """The first row that the point may be in without the window being scrolled back."""
    if state.top == 0:
        return 0
    return state.top + real_margin(state)


def last_free_row(state, rows):
    """The last row that the point may be in without the window being scrolled on."""
    if state.top + state.high >= len(rows):
        return len(rows) - 1
    return state.top + state.high - 1 - real_margin(state)


def call_scroll(state, told):
    if told[1] > MOST_STEPS:
        return refused(WRONG)
    rows = seen_rows(state)
    state.top = scroll_top(state, rows, told[0], told[1])
    number = row_number(rows, state.line, state.place)
    free = min(max(number, first_free_row(state)), last_free_row(state, rows))
    # A point that needn't move is not put anywhere: that would make its column the wished one.
    if free != number:
        put_into(state, rows, free)
    return point_answer(state, rows)


def call_point(state, told):
    return point_answer(state, seen_rows(state))


def call_shows(state, told):
    rows = seen_rows(state)[state.top:state.top + state.high]
    answer = [len(rows)]
    for row in rows:
        answer.extend([row.line, row.begin, row.behind, row.column])
    return answer


def call_rows(state, told):
    if told[0] >= len(state.lines):
        return refused(WRONG)
    rows = line_rows(state.look, told[0], state.lines[told[0]])
    answer = [len(rows)]
    for row in rows:
        answer.extend([row.begin, row.behind, row.column])
    return answer


def call_at(state, told):
    if told[0] >= state.high or told[1] >= state.look.wide:
        return refused(WRONG)
    rows = seen_rows(state)
    number = state.top + told[0]
    if number >= len(rows):
        return refused(MISSING)
    return [rows[number].line, row_place(state, rows[number], told[1])]


def call_where(state, told):
    if not is_place(state, told[0], told[1]):
        return refused(WRONG)
    if is_hidden(state.folds, told[0]):
        return refused(MISSING)
    answer = place_answer(state, seen_rows(state), told[0], told[1])
    if not 0 <= answer[0] < state.high:
        return refused(OUTSIDE)
    return answer


# In the order of their numbers.
CALLS = (
    call_look, call_window, call_text, call_edit, call_fold, call_unfold,
    call_goto, call_up, call_down, call_left, call_right, call_scroll,
    call_point, call_shows, call_rows, call_at, call_where,
)


def answers(calls):
    state = State()
    given = []
    begin = 0
    while begin < len(calls):
        # Ahead of each call stand a 0 and how many numbers it has.
        behind = begin + 2 + calls[begin + 1]
        call = calls[begin + 2:behind]
        answer = CALLS[call[0]](state, call[1:])
        given.append(len(answer))
        given.extend(answer)
        begin = behind
    return given
