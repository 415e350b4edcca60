"""Long lists of calls by chance (with a fixed seed), held against the document's words said in the plainest way.

The model tries out all that could be instead of counting: it takes the top that is nearest among all that
show the point, the row among all that have the place, the longest run of bytes among all that fit.
"""

import random
import unittest

from tests.helper import ask

SEEDS = 60


def columns_from(line, look, start, stop, column):
    """The columns of the places from start to stop (with it), none cut."""
    columns = [column]
    for byte in line[start:stop]:
        width = 2 if byte < 32 or byte == 127 else 1
        if byte == 9:
            width = next(k for k in range(1, 17) if (columns[-1] + k) % look[1] == 0)
        columns.append(columns[-1] + width)
    return columns


def model_rows(line, look):
    """Of each row: from, to, column."""
    wide, tab, more, hang, words = look
    blank = [byte in (9, 32) for byte in line] + [False]
    lead = blank.index(False)
    inset = more + (columns_from(line, look, 0, lead, 0)[-1] if hang else 0)
    if not inset + 1 < wide:
        inset = 0
    rows, start = [], 0
    while not rows or start < len(line):
        column = inset if rows else 0
        ends = columns_from(line, look, start, len(line), column)[1:]
        n = max([1] + [k for k in range(1, len(ends) + 1) if ends[k - 1] <= wide])
        if n >= len(ends):
            stop = len(line)
        elif words and blank[start + n]:
            stop = blank.index(False, start + n)
        elif words and any(blank[start:start + n]):
            stop = max(k for k in range(start, start + n) if blank[k]) + 1
        else:
            stop = start + n
        rows.append((start, stop, column))
        start = stop
    return rows


class Model:
    def __init__(self):
        self.look, self.high, self.margin = (20, 8, 0, 0, 1), 10, 0
        self.lines, self.folds, self.wish, self.top = [[]], set(), None, 0
        self.spot = (0, 0)

    def hiding(self, line):
        return {fold for fold in self.folds if line in range(fold[0] + 1, fold[1])}

    def table(self):
        """Of each row: its line, from, to, column, its places with their columns."""
        table = []
        for number, line in enumerate(self.lines):
            if not self.hiding(number):
                for start, stop, column in model_rows(line, self.look):
                    columns = columns_from(line, self.look, start, stop, column)
                    places = dict(zip(range(start, stop + 1), columns))
                    if stop < len(line):
                        del places[stop]
                    table.append((number, start, stop, column, places))
        return table

    def find(self, spot):
        return next(k for k, row in enumerate(self.table()) if row[0] == spot[0] and spot[1] in row[4])

    def located(self, spot):
        number = self.find(spot)
        return [number - self.top, min(self.look[0] - 1, self.table()[number][4][spot[1]])]

    def point(self):
        return list(self.spot) + self.located(self.spot)

    def real_margin(self):
        return max(k for k in range(self.margin + 1) if 2 * k <= self.high - 1)

    def tops(self):
        return range(max(1, len(self.table()) - self.high + 1))

    def is_free(self, top, row):
        """Whether the window at this top may stay where the point is in this row."""
        above, below = row - top, top + self.high - 1 - row
        at_end = top + self.high >= len(self.table())
        return (above >= (self.real_margin() if top else 0)) and (below >= (0 if at_end else self.real_margin()))

    def scrolled(self):
        row = self.find(self.spot)
        self.top = min([top for top in self.tops() if self.is_free(top, row)], key=lambda top: abs(top - self.top))
        return self.point()

    def unwished(self):
        self.wish = None
        return self.scrolled()

    def for_column(self, row, column):
        return max([place for place, real in row[4].items() if real <= column], default=row[1])

    def put_into(self, number):
        if self.wish is None:
            self.wish = self.located(self.spot)[1]
        row = self.table()[number]
        self.spot = (row[0], self.for_column(row, self.wish))

    def come_out(self):
        line, place = self.spot
        while self.hiding(line):
            line = max(self.hiding(line))[0]
            place = min(place, len(self.lines[line]))
        self.spot = (line, place)

    def do_look(self, *look):
        if look[0] not in range(4, 101) or look[1] not in range(1, 17) or look[2] > 100:
            return [-1]
        self.look = look
        return self.unwished()

    def do_window(self, high, margin):
        if high not in range(1, 61) or margin > 60:
            return [-1]
        self.high, self.margin = high, margin
        return self.scrolled()

    def are_good(self, lines):
        return all(len(line) <= 120 and 10 not in line and max(line, default=0) < 256 for line in lines)

    def do_text(self, *lines):
        if len(lines) not in range(1, 31) or not self.are_good(lines):
            return [-1]
        self.lines, self.folds, self.spot, self.top = list(lines), set(), (0, 0), 0
        return self.unwished()

    def do_edit(self, a, b, *lines):
        if b < a or b > len(self.lines) or not self.are_good(lines):
            return [-1]
        if len(self.lines) - len(self.lines[a:b]) + len(lines) not in range(1, 31):
            return [-5]
        # Each line is known by where it stood, each new one by itself.
        olds = list(range(len(self.lines)))
        news = ["new %d" % k for k in range(len(lines))]
        order = olds[:a] + news + olds[b:]
        kept = set()
        for begin, behind in self.folds:
            own = olds[begin:behind]
            if begin < a < behind and b <= behind:
                own = olds[begin:a] + news + olds[b:behind]
            elif behind > a and begin < b:
                own = []
            if len(own) >= 2:
                kept.add((order.index(own[0]), order.index(own[0]) + len(own)))
        self.folds = kept
        self.lines[a:b] = lines
        line, place = self.spot
        self.spot = (order.index(line), place) if line in order else (min(a, len(order) - 1), 0)
        self.come_out()
        return self.unwished()

    def do_fold(self, begin, behind):
        if begin + 2 > behind or behind > len(self.lines):
            return [-1]
        mine = set(range(begin, behind))
        for fold in self.folds:
            other = set(range(*fold))
            if mine == other or (mine & other and not mine <= other and not mine >= other):
                return [-4]
        if len(self.folds) == 12:
            return [-5]
        self.folds.add((begin, behind))
        self.come_out()
        return self.unwished()

    def do_unfold(self, line):
        if line >= len(self.lines):
            return [-1]
        having = {fold for fold in self.folds if line in range(*fold)}
        if not having:
            return [-6]
        self.folds -= having
        return self.unwished()

    def is_spot(self, line, place):
        return line < len(self.lines) and place <= len(self.lines[line])

    def do_goto(self, line, place):
        if not self.is_spot(line, place):
            return [-1]
        self.folds -= self.hiding(line)
        self.spot = (line, place)
        return self.unwished()

    def go_rows(self, wanted):
        count = len(self.table())
        self.put_into(min(range(count), key=lambda number: abs(number - wanted)))
        return self.scrolled()

    def do_up(self, rows):
        return [-1] if rows > 100 else self.go_rows(self.find(self.spot) - rows)

    def do_down(self, rows):
        return [-1] if rows > 100 else self.go_rows(self.find(self.spot) + rows)

    def go_places(self, count):
        spots = [(row[0], place) for row in self.table() for place in row[4]]
        self.spot = spots[min(max(spots.index(self.spot) + count, 0), len(spots) - 1)]
        return self.unwished()

    def do_left(self, places):
        return [-1] if places > 100 else self.go_places(-places)

    def do_right(self, places):
        return [-1] if places > 100 else self.go_places(places)

    def do_scroll(self, back, rows):
        if rows > 100:
            return [-1]
        wanted = self.top - rows if back else self.top + rows
        self.top = min(self.tops(), key=lambda top: abs(top - wanted))
        row = self.find(self.spot)
        nearest = min([number for number in range(len(self.table())) if self.is_free(self.top, number)],
                      key=lambda number: abs(number - row))
        if nearest != row:
            self.put_into(nearest)
        return self.point()

    def do_point(self):
        return self.point()

    def do_shows(self):
        rows = self.table()[self.top:self.top + self.high]
        return [len(rows)] + [number for row in rows for number in row[:4]]

    def do_rows(self, line):
        if line >= len(self.lines):
            return [-1]
        rows = model_rows(self.lines[line], self.look)
        return [len(rows)] + [number for row in rows for number in row]

    def do_at(self, row, column):
        if row >= self.high or column >= self.look[0]:
            return [-1]
        if self.top + row >= len(self.table()):
            return [-6]
        found = self.table()[self.top + row]
        return [found[0], self.for_column(found, column)]

    def do_where(self, line, place):
        if not self.is_spot(line, place):
            return [-1]
        if self.hiding(line):
            return [-6]
        answer = self.located((line, place))
        return answer if answer[0] in range(self.high) else [-7]


class Chance:
    """Makes calls of which most are not refused, on texts that are small enough to be tried out."""

    def __init__(self, seed):
        self.random = random.Random(seed)

    def below(self, most):
        return self.random.randint(0, most)

    def line(self):
        letters = self.random.choice(([97, 98, 32], [97, 97, 97, 97, 32, 9], [97, 1, 127, 32, 200], [32, 9], [9, 98, 31]))
        line = [32] * self.random.choice((0, 0, 1, 3)) + self.random.choices(letters, k=self.random.choice((0, 1, 5, 12, 30)))
        return line + [10] if self.below(150) == 0 else line

    def some_lines(self, most):
        return [self.line() for k in range(self.below(most))]

    def call(self, count):
        """A call on a text of about so many lines."""
        name = self.random.choice("look window text edit edit fold fold fold unfold goto goto up down down left right "
                                  "scroll scroll point shows shows rows at where where".split())
        line, place = self.below(count), self.random.choice((0, 0, 1, 2, 4, 8, 12, 20))
        steps = self.random.choice((0, 1, 1, 2, 3, 5, 9, 40, 101))
        told = {
            "look": [self.random.choice((3, 4, 5, 6, 8, 12, 20)), self.random.choice((0, 1, 2, 4, 8, 16)),
                     self.random.choice((0, 0, 0, 1, 2, 4, 9, 101)), self.below(1), self.below(1)],
            "window": [self.random.choice((0, 1, 2, 3, 4, 5, 7, 10)), self.random.choice((0, 1, 2, 3, 60))],
            "text": self.some_lines(12),
            "edit": [line, line + self.random.choice((-1, 0, 0, 1, 1, 2, 4))] + self.some_lines(3),
            "fold": [line, line + self.random.choice((1, 2, 2, 3, 3, 4, 5, 7, 10))],
            "unfold": [line], "goto": [line, place], "up": [steps], "down": [steps], "left": [steps], "right": [steps],
            "scroll": [self.below(1), steps], "point": [], "shows": [], "rows": [line],
            "at": [self.below(10), self.below(20)], "where": [line, place],
        }[name]
        return (name,) + tuple(max(0, number) if isinstance(number, int) else number for number in told)


class AgainstTheModel(unittest.TestCase):
    def test_many_lists_of_calls(self):
        for seed in range(SEEDS):
            chance, model = Chance(seed), Model()
            calls, expected = [], []
            calls.append(("text",) + tuple(chance.line() for k in range(10)))
            for k in range(49):
                expected.append(getattr(model, "do_" + calls[-1][0])(*calls[-1][1:]))
                calls.append(chance.call(len(model.lines)))
            expected.append(getattr(model, "do_" + calls[-1][0])(*calls[-1][1:]))
            given = ask(*calls)
            for number, call in enumerate(calls):
                self.assertEqual(given[number], expected[number], (seed, number, call, calls[:number]))


class WhatIsPromisedOverall(unittest.TestCase):
    def test_down_and_up_again_is_the_same_place(self):
        for seed in range(100):
            chance = Chance(seed)
            lines = [[byte for byte in chance.line() if byte != 10] for k in range(12)]
            line = chance.below(11)
            place = chance.below(len(lines[line]))
            steps = chance.below(6)
            calls = [("look", 8, 4, chance.below(3), chance.below(1), chance.below(1)), ("text", *lines),
                     ("goto", line, place), ("down", steps), ("up", steps), ("window", 60, 0)]
            model = Model()
            for call in calls[:3]:
                getattr(model, "do_" + call[0])(*call[1:])
            number = model.find((line, place))
            if model.table()[number][4][place] <= 7 and number + steps < len(model.table()):
                self.assertEqual(ask(*calls)[4][:2], [line, place], (seed, calls))


if __name__ == "__main__":
    unittest.main()
