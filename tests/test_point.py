"""The point: text, edit, goto, up, down, left, right, and the wished column."""

import unittest

from tests.helper import ask, last, row_list

SHAPE = ("text", "abcdefgh", "ab", "abcdefgh", "", "abcdefgh")
TEN = ("text", "l0", "l1", "l2", "l3", "l4", "l5", "l6", "l7", "l8", "l9")


class Beginning(unittest.TestCase):
    def test_the_point_of_a_new_text(self):
        self.assertEqual(ask(("point",), ("shows",)), [[0, 0, 0, 0], [1, 0, 0, 0, 0]])

    def test_text_puts_the_point_at_the_beginning(self):
        self.assertEqual(last(TEN), [0, 0, 0, 0])
        self.assertEqual(last(("window", 3, 1), TEN, ("goto", 8, 1), ("text", "ab", "cd")), [0, 0, 0, 0])
        answers = ask(("window", 3, 1), TEN, ("goto", 8, 1), TEN, ("shows",))
        self.assertEqual([row[0] for row in row_list(answers[4], 4)], [0, 1, 2])

    def test_the_least_and_the_greatest_texts(self):
        self.assertEqual(last(("text", "")), [0, 0, 0, 0])
        longest = ["\xff" * 120] * 30
        answers = ask(("text",) + tuple(longest), ("goto", 29, 120), ("goto", 29, 121), ("goto", 30, 0))
        self.assertEqual(answers[0], [0, 0, 0, 0])
        self.assertEqual(answers[1], [29, 120, 9, 19])
        self.assertEqual(answers[2:], [[-1], [-1]])

    def test_all_bytes_but_a_line_feed_are_let(self):
        every = [byte for byte in range(256) if byte != 10]
        self.assertEqual(last(("text", every[:120], every[120:240], every[240:])), [0, 0, 0, 0])


class Goto(unittest.TestCase):
    def test_the_point_goes_there(self):
        self.assertEqual(last(SHAPE, ("goto", 2, 5)), [2, 5, 2, 5])
        self.assertEqual(last(SHAPE, ("goto", 2, 8)), [2, 8, 2, 8])
        self.assertEqual(last(SHAPE, ("goto", 3, 0)), [3, 0, 3, 0])

    def test_a_place_at_a_rows_end_is_in_the_next_row(self):
        self.assertEqual(last(("look", 4, 8, 0, 0, 0), ("text", "abcdef"), ("goto", 0, 4)), [0, 4, 1, 0])
        self.assertEqual(last(("look", 4, 8, 0, 0, 0), ("text", "abcd"), ("goto", 0, 4)), [0, 4, 0, 3])


class UpAndDown(unittest.TestCase):
    def test_down_through_a_short_row_and_up_again(self):
        answers = ask(SHAPE, ("goto", 0, 6), ("down", 1), ("down", 1), ("down", 1), ("down", 1),
                      ("up", 1), ("up", 1), ("up", 1), ("up", 1))
        self.assertEqual(answers[2:], [[1, 2, 1, 2], [2, 6, 2, 6], [3, 0, 3, 0], [4, 6, 4, 6],
                                       [3, 0, 3, 0], [2, 6, 2, 6], [1, 2, 1, 2], [0, 6, 0, 6]])

    def test_several_rows_at_once(self):
        self.assertEqual(last(SHAPE, ("goto", 0, 6), ("down", 2)), [2, 6, 2, 6])
        self.assertEqual(last(SHAPE, ("goto", 4, 6), ("up", 3)), [1, 2, 1, 2])

    def test_the_first_and_the_last_row_if_there_are_fewer(self):
        self.assertEqual(last(SHAPE, ("goto", 1, 1), ("up", 100)), [0, 1, 0, 1])
        self.assertEqual(last(SHAPE, ("goto", 1, 1), ("down", 100)), [4, 1, 4, 1])

    def test_rows_of_one_line(self):
        answers = ask(("look", 4, 8, 0, 0, 0), ("text", "abcdefghij"), ("goto", 0, 3), ("down", 1), ("down", 1),
                      ("up", 1), ("up", 1))
        self.assertEqual(answers[3:], [[0, 7, 1, 3], [0, 10, 2, 2], [0, 7, 1, 3], [0, 3, 0, 3]])

    def test_a_row_that_is_not_the_last_keeps_the_point_in_it(self):
        answers = ask(("look", 6, 8, 0, 0, 1), ("text", "abcdef", "ab cdefg"), ("goto", 0, 5), ("down", 1), ("down", 1))
        self.assertEqual(answers[3:], [[1, 2, 1, 2], [1, 8, 2, 5]])

    def test_hidden_lines_have_no_rows(self):
        self.assertEqual(last(SHAPE, ("fold", 0, 4), ("goto", 0, 3), ("down", 1)), [4, 3, 1, 3])
        self.assertEqual(last(SHAPE, ("fold", 0, 4), ("goto", 4, 3), ("up", 1)), [0, 3, 0, 3])

    def test_a_row_that_begins_behind_the_wished_column(self):
        answers = ask(("look", 6, 8, 3, 0, 0), ("text", "abcdefghi", "ab"), ("goto", 0, 1), ("down", 1), ("down", 1))
        self.assertEqual(answers[3:], [[0, 6, 1, 3], [1, 1, 2, 1]])

    def test_a_column_that_is_cut_is_wished_as_cut(self):
        answers = ask(("look", 4, 8, 0, 0, 0), ("text", "abcd", "abcd"), ("goto", 0, 4), ("down", 1), ("up", 1))
        self.assertEqual(answers[2:], [[0, 4, 0, 3], [1, 3, 1, 3], [0, 3, 0, 3]])

    def test_no_row_on_puts_the_point_into_its_own_row(self):
        for name in ("up", "down"):
            with self.subTest(name=name):
                self.assertEqual(last(SHAPE, ("goto", 0, 6), (name, 0)), [0, 6, 0, 6])
                self.assertEqual(last(("look", 4, 8, 0, 0, 0), ("text", "abcd"), ("goto", 0, 4), (name, 0)),
                                 [0, 3, 0, 3])


class WishedColumn(unittest.TestCase):
    def place_after(self, *between):
        """Where the point gets in the third line, if these calls are made on the short second one."""
        return last(SHAPE, ("goto", 0, 6), ("down", 1), *between, ("down", 1))[:2]

    def test_these_calls_leave_it_wished(self):
        for between in (("window", 5, 1), ("point",), ("shows",), ("rows", 0), ("at", 0, 0), ("where", 0, 0),
                        ("up", 0), ("down", 0), ("scroll", 0, 0), ("scroll", 1, 0)):
            with self.subTest(between=between):
                self.assertEqual(self.place_after(between), [2, 6])

    def test_after_these_calls_no_column_is_wished(self):
        for between in (("look", 20, 8, 0, 0, 1), ("edit", 5, 5), ("edit", 4, 5, "x"), ("fold", 3, 5),
                        ("goto", 1, 2), ("left", 0), ("right", 0)):
            with self.subTest(between=between):
                self.assertEqual(self.place_after(between), [2, 2])

    def test_after_unfold_no_column_is_wished(self):
        self.assertEqual(last(SHAPE, ("fold", 3, 5), ("goto", 0, 6), ("down", 1), ("unfold", 4), ("down", 1)),
                         [2, 2, 2, 2])

    def test_after_text_no_column_is_wished(self):
        self.assertEqual(last(SHAPE, ("goto", 0, 6), ("down", 1), SHAPE, ("down", 2)), [2, 0, 2, 0])

    def test_a_refused_call_leaves_it_wished(self):
        for between in (("look", 3, 8, 0, 0, 1), ("edit", 6, 6), ("fold", 4, 5), ("unfold", 1), ("unfold", 9),
                        ("goto", 1, 3), ("left", 101), ("right", 101), ("text",)):
            with self.subTest(between=between):
                self.assertEqual(self.place_after(between), [2, 6])


class LeftAndRight(unittest.TestCase):
    LINES = ("text", "ab", "", "cd")

    def test_right_goes_place_by_place_and_line_by_line(self):
        answers = ask(self.LINES, *[("right", 1)] * 7)
        self.assertEqual([answer[:2] for answer in answers],
                         [[0, 0], [0, 1], [0, 2], [1, 0], [2, 0], [2, 1], [2, 2], [2, 2]])

    def test_left_goes_place_by_place_and_line_by_line(self):
        answers = ask(self.LINES, ("goto", 2, 2), *[("left", 1)] * 7)
        self.assertEqual([answer[:2] for answer in answers[1:]],
                         [[2, 2], [2, 1], [2, 0], [1, 0], [0, 2], [0, 1], [0, 0], [0, 0]])

    def test_many_at_once(self):
        self.assertEqual(last(self.LINES, ("right", 5)), [2, 1, 2, 1])
        self.assertEqual(last(self.LINES, ("right", 100)), [2, 2, 2, 2])
        self.assertEqual(last(self.LINES, ("right", 100), ("left", 3)), [1, 0, 1, 0])
        self.assertEqual(last(self.LINES, ("right", 100), ("left", 100)), [0, 0, 0, 0])

    def test_the_greatest_number(self):
        self.assertEqual(last(("text", "x" * 120), ("right", 100)), [0, 100, 5, 0])
        self.assertEqual(last(("text", "x" * 120), ("goto", 0, 120), ("left", 100)), [0, 20, 1, 0])

    def test_hidden_lines_are_left_out(self):
        folded = (TEN, ("fold", 1, 4))
        self.assertEqual(last(*folded, ("goto", 1, 2), ("right", 1)), [4, 0, 2, 0])
        self.assertEqual(last(*folded, ("goto", 4, 0), ("left", 1)), [1, 2, 1, 2])
        self.assertEqual(last(TEN, ("fold", 7, 10), ("goto", 7, 2), ("right", 9)), [7, 2, 7, 2])


class PointAndEdits(unittest.TestCase):
    def point(self, line, place, *edit):
        return last(TEN, ("goto", line, place), ("edit",) + edit)[:2]

    def test_the_point_stays_in_its_line(self):
        self.assertEqual(self.point(3, 1, 4, 6, "x"), [3, 1])
        self.assertEqual(self.point(3, 1, 4, 4, "x"), [3, 1])
        self.assertEqual(self.point(3, 1, 0, 2), [1, 1])
        self.assertEqual(self.point(3, 1, 0, 3, "x"), [1, 1])
        self.assertEqual(self.point(3, 1, 1, 2, "x", "y", "z"), [5, 1])
        self.assertEqual(self.point(3, 1, 3, 3, "x"), [4, 1])

    def test_an_exchanged_line_leaves_the_point_at_the_first_new_one(self):
        self.assertEqual(self.point(5, 2, 4, 7, "aaaa", "bbbb"), [4, 0])
        self.assertEqual(self.point(4, 2, 4, 5, "aaaa"), [4, 0])
        self.assertEqual(self.point(6, 2, 4, 7, ""), [4, 0])

    def test_a_line_taken_away_leaves_the_point_at_the_one_behind(self):
        self.assertEqual(self.point(5, 2, 4, 7), [4, 0])
        self.assertEqual(self.point(0, 2, 0, 9), [0, 0])

    def test_it_goes_to_the_last_line_if_there_are_fewer(self):
        self.assertEqual(self.point(9, 2, 8, 10), [7, 0])
        self.assertEqual(self.point(9, 2, 1, 10), [0, 0])

    def test_a_last_line_that_is_hidden_puts_it_on_the_folds_first(self):
        self.assertEqual(last(TEN, ("fold", 5, 8), ("goto", 9, 1), ("edit", 8, 10)), [5, 0, 5, 0])
        self.assertEqual(last(TEN, ("fold", 5, 8), ("fold", 3, 8), ("goto", 9, 1), ("edit", 8, 10)), [3, 0, 3, 0])
        self.assertEqual(last(TEN, ("fold", 3, 8), ("fold", 5, 8), ("goto", 9, 1), ("edit", 8, 10)), [3, 0, 3, 0])

    def test_the_new_lines_are_there(self):
        answers = ask(TEN, ("edit", 2, 5, "abc", ""), ("window", 60, 0), ("shows",))
        self.assertEqual([(row[0], row[2]) for row in row_list(answers[3], 4)],
                         [(0, 2), (1, 2), (2, 3), (3, 0), (4, 2), (5, 2), (6, 2), (7, 2), (8, 2)])

    def test_an_edit_may_do_nothing(self):
        self.assertEqual(last(TEN, ("goto", 3, 1), ("edit", 3, 3)), [3, 1, 3, 1])
        self.assertEqual(last(TEN, ("goto", 3, 1), ("edit", 10, 10)), [3, 1, 3, 1])

    def test_up_to_thirty_lines_and_down_to_one(self):
        self.assertEqual(last(TEN, ("edit", 10, 10, *["x"] * 20), ("goto", 29, 1))[:2], [29, 1])
        self.assertEqual(last(TEN, ("edit", 1, 10), ("goto", 1, 0)), [-1])
        self.assertEqual(last(("edit", 0, 1, "ab", "cd"), ("goto", 1, 2)), [1, 2, 1, 2])

    def test_the_window_goes_along(self):
        answers = ask(("window", 4, 0), TEN, ("goto", 9, 0), ("edit", 0, 8), ("shows",))
        self.assertEqual(answers[3], [1, 0, 1, 0])
        self.assertEqual([row[0] for row in row_list(answers[4], 4)], [0, 1])


if __name__ == "__main__":
    unittest.main()
