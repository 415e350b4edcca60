"""How a line's bytes take columns, and how the line is cut into rows."""

TAB = 9
BLANKS = (9, 32)


class Look:
    """How many columns there are, and what else tells where a line is cut."""

    def __init__(self, wide, tab, more, hang, words):
        self.wide = wide
        self.tab = tab
        self.more = more
        self.hang = hang
        self.words = words


class Row:
    """One row: its line's number, its bytes from begin up to (not with) behind, its first column."""

    def __init__(self, line, begin, behind, column):
        self.line = line
        self.begin = begin
        self.behind = behind
        self.column = column


def column_behind(look, byte, column):
    if byte == TAB:
        return (column // look.tab + 1) * look.tab
    if byte < 32 or byte == 127:
        return column + 2
    return column + 1


def column_after(look, some, column):
    """The column behind some bytes, the first of which stands at a column."""
    for byte in some:
        column = column_behind(look, byte, column)
    return column


def blanks_end(line, begin):
    behind = begin
    while behind < len(line) and line[behind] in BLANKS:
        behind += 1
    return behind


def inset_of(look, line):
    inset = look.more
    if look.hang == 1:
        inset += column_after(look, line[:blanks_end(line, 0)], 0)
    if inset + 1 < look.wide:
        return inset
    return 0


def fitting_end(look, line, begin, column):
    behind = begin
    while behind < len(line):
        column = column_behind(look, line[behind], column)
        # A row takes its first byte even where that doesn't fit, or the rows would never end.
        if column > look.wide and behind > begin:
            break
        behind += 1
    return behind


def last_blank_end(line, begin, behind):
    """Where the last blank from begin to behind ends, or begin if there is none."""
    while behind > begin and line[behind - 1] not in BLANKS:
        behind -= 1
    return behind


def row_end(look, line, begin, column):
    fitting = fitting_end(look, line, begin, column)
    if fitting == len(line) or look.words == 0:
        return fitting
    hanging = blanks_end(line, fitting)
    if hanging > fitting:
        return hanging
    cut = last_blank_end(line, begin, fitting)
    if cut > begin:
        return cut
    return fitting


def line_rows(look, number, line):
    inset = inset_of(look, line)
    behind = row_end(look, line, 0, 0)
    rows = [Row(number, 0, behind, 0)]
    while behind < len(line):
        begin = behind
        behind = row_end(look, line, begin, inset)
        rows.append(Row(number, begin, behind, inset))
    return rows


def place_column(look, line, row, place):
    column = column_after(look, line[row.begin:place], row.column)
    return min(column, look.wide - 1)


def place_for(look, line, row, column):
    last = row.behind
    # The place at the end of a row that isn't the line's last is already in the next row.
    if last < len(line):
        last -= 1
    place = row.begin
    reached = row.column
    while place < last:
        reached = column_behind(look, line[place], reached)
        if reached > column:
            break
        place += 1
    return place
