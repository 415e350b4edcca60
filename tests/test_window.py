"""The window: window, scroll, shows, at, where, and how it goes along with the point."""

import unittest

from tests.helper import ask, last, row_list

THIRTY = ("text",) + ("x",) * 30


def tops(*calls):
    """The line at the window's top after each of these calls on thirty lines of one row each."""
    asked = [THIRTY]
    for call in calls:
        asked += [call, ("shows",)]
    return [answer[1] for answer in ask(*asked)[2::2]]


class Scrolled(unittest.TestCase):
    def test_at_the_beginning_the_window_is_10_high_without_margin(self):
        answers = ask(THIRTY, ("shows",), ("goto", 9, 0), ("goto", 10, 0), ("goto", 1, 0), ("goto", 0, 0))
        self.assertEqual(answers[1][0], 10)
        self.assertEqual(answers[2:], [[9, 0, 9, 0], [10, 0, 9, 0], [1, 0, 0, 0], [0, 0, 0, 0]])

    def test_it_goes_no_further_than_it_has_to(self):
        self.assertEqual(tops(("goto", 9, 0), ("goto", 10, 0), ("goto", 15, 0), ("goto", 7, 0), ("goto", 6, 0),
                              ("goto", 5, 0), ("goto", 29, 0), ("goto", 20, 0), ("goto", 19, 0), ("goto", 0, 0)),
                         [0, 1, 6, 6, 6, 5, 20, 20, 19, 0])

    def test_the_margin_is_kept(self):
        self.assertEqual(tops(("window", 10, 3), ("goto", 6, 0), ("goto", 7, 0), ("goto", 15, 0), ("goto", 12, 0),
                              ("goto", 11, 0), ("goto", 2, 0)),
                         [0, 0, 1, 9, 9, 8, 0])

    def test_the_margin_ends_at_the_texts_ends(self):
        self.assertEqual(ask(THIRTY, ("window", 10, 3), ("goto", 26, 0), ("goto", 27, 0), ("goto", 29, 0),
                             ("goto", 23, 0), ("goto", 22, 0), ("goto", 0, 0))[2:],
                         [[26, 0, 6, 0], [27, 0, 7, 0], [29, 0, 9, 0], [23, 0, 3, 0], [22, 0, 3, 0], [0, 0, 0, 0]])

    def test_a_margin_of_more_than_half_the_height(self):
        for high, told, real in ((5, 2, 2), (5, 3, 2), (5, 60, 2), (4, 9, 1), (2, 60, 0), (1, 60, 0), (10, 5, 4)):
            with self.subTest(high=high, told=told):
                down = last(THIRTY, ("window", high, told), ("goto", 15, 0))
                self.assertEqual(down, [15, 0, high - 1 - real, 0])
                up = last(THIRTY, ("window", high, told), ("goto", 29, 0), ("goto", 15, 0))
                self.assertEqual(up, [15, 0, real, 0])

    def test_window_goes_along_at_once(self):
        answers = ask(THIRTY, ("goto", 9, 0), ("window", 5, 0), ("window", 5, 1), ("window", 60, 60), ("shows",))
        self.assertEqual(answers[2:5], [[9, 0, 4, 0], [9, 0, 3, 0], [9, 0, 9, 0]])
        self.assertEqual(answers[5][0], 30)

    def test_the_margin_told_counts_again_in_a_higher_window(self):
        self.assertEqual(last(THIRTY, ("window", 1, 3), ("window", 10, 3), ("goto", 15, 0)), [15, 0, 6, 0])

    def test_the_top_comes_back_if_fewer_rows_are_left(self):
        self.assertEqual(tops(("goto", 29, 0), ("edit", 20, 25), ("fold", 0, 20), ("unfold", 0)), [20, 15, 0, 15])

    def test_look_goes_along(self):
        lines = ("text",) + ("abcdefgh",) * 12
        answers = ask(lines, ("goto", 9, 5), ("look", 4, 8, 0, 0, 0), ("shows",), ("look", 20, 8, 0, 0, 0), ("shows",))
        self.assertEqual(answers[2], [9, 5, 9, 1])
        self.assertEqual(row_list(answers[3], 4)[0], (5, 0, 4, 0))
        self.assertEqual(answers[4], [9, 5, 7, 5])
        self.assertEqual(row_list(answers[5], 4)[0], (2, 0, 8, 0))

    def test_up_and_down_go_along(self):
        self.assertEqual(ask(THIRTY, ("window", 5, 1), ("down", 3), ("down", 1), ("up", 2), ("up", 1))[2:],
                         [[3, 0, 3, 0], [4, 0, 3, 0], [2, 0, 1, 0], [1, 0, 1, 0]])
        self.assertEqual(last(THIRTY, ("window", 5, 1), ("down", 100)), [29, 0, 4, 0])

    def test_left_and_right_go_along(self):
        self.assertEqual(last(THIRTY, ("window", 5, 1), ("right", 20)), [10, 0, 3, 0])
        self.assertEqual(last(THIRTY, ("window", 5, 1), ("goto", 20, 0), ("left", 20)), [10, 0, 1, 0])


class Scroll(unittest.TestCase):
    def test_the_top_goes_and_the_point_stays_within_the_margin(self):
        answers = ask(THIRTY, ("window", 10, 2), ("scroll", 0, 5), ("scroll", 0, 100), ("scroll", 1, 5),
                      ("scroll", 1, 1), ("scroll", 1, 100))
        self.assertEqual(answers[2:], [[7, 0, 2, 0], [22, 0, 2, 0], [22, 0, 7, 0], [21, 0, 7, 0], [7, 0, 7, 0]])

    def test_the_top_stays_between_the_texts_ends(self):
        self.assertEqual(tops(("scroll", 0, 3), ("scroll", 0, 100), ("scroll", 0, 1), ("scroll", 1, 19),
                              ("scroll", 1, 2), ("scroll", 1, 1)), [3, 20, 20, 1, 0, 0])

    def test_where_the_top_is_0_there_is_no_margin_above(self):
        self.assertEqual(last(THIRTY, ("window", 10, 2), ("scroll", 1, 1)), [0, 0, 0, 0])
        self.assertEqual(last(THIRTY, ("window", 10, 2), ("scroll", 0, 0)), [0, 0, 0, 0])
        self.assertEqual(last(THIRTY, ("window", 10, 2), ("scroll", 0, 1)), [3, 0, 2, 0])

    def test_where_the_window_has_the_last_row_there_is_no_margin_below(self):
        self.assertEqual(last(THIRTY, ("window", 10, 2), ("goto", 29, 0), ("scroll", 0, 1)), [29, 0, 9, 0])
        self.assertEqual(last(THIRTY, ("window", 10, 2), ("goto", 29, 0), ("scroll", 1, 0)), [29, 0, 9, 0])
        self.assertEqual(last(THIRTY, ("window", 10, 2), ("goto", 29, 0), ("scroll", 1, 1)), [26, 0, 7, 0])

    def test_a_window_higher_than_the_rows_stays(self):
        self.assertEqual(ask(("text", "a", "b", "c"), ("goto", 2, 1), ("scroll", 0, 2), ("scroll", 1, 2))[2:],
                         [[2, 1, 2, 1], [2, 1, 2, 1]])

    def test_the_point_is_put_at_its_wished_column(self):
        lines = ("text",) + ("abcdef", "a") * 6
        answers = ask(lines, ("window", 3, 0), ("goto", 0, 5), ("scroll", 0, 1), ("scroll", 0, 1), ("scroll", 0, 1),
                      ("up", 1))
        self.assertEqual(answers[3:], [[1, 1, 0, 1], [2, 5, 0, 5], [3, 1, 0, 1], [2, 5, 0, 5]])

    def test_a_point_that_need_not_move_stays_at_its_place(self):
        answers = ask(("look", 4, 8, 0, 0, 0), ("text",) + ("abcd",) * 20, ("goto", 5, 4), ("scroll", 0, 2),
                      ("scroll", 1, 1))
        self.assertEqual(answers[3:], [[5, 4, 3, 3], [5, 4, 4, 3]])

    def test_scrolling_ends_where_the_next_call_does_not_scroll_back(self):
        answers = ask(THIRTY, ("window", 10, 3), ("scroll", 0, 7), ("up", 0), ("scroll", 1, 3), ("down", 0))
        self.assertEqual(answers[2], answers[3])
        self.assertEqual(answers[4], answers[5])


class Shows(unittest.TestCase):
    def test_the_rows_of_the_window(self):
        answers = ask(("look", 8, 8, 2, 0, 1), ("text", "the quick", "", "a", "b", "brown fox jumps"), ("fold", 2, 4),
                      ("shows",), ("window", 3, 0), ("down", 4), ("shows",))
        self.assertEqual(row_list(answers[3], 4), [(0, 0, 4, 0), (0, 4, 9, 2), (1, 0, 0, 0), (2, 0, 1, 0),
                                                   (4, 0, 6, 0), (4, 6, 10, 2), (4, 10, 15, 2)])
        self.assertEqual(row_list(answers[6], 4), [(1, 0, 0, 0), (2, 0, 1, 0), (4, 0, 6, 0)])

    def test_a_window_higher_than_the_rows_there_are(self):
        self.assertEqual(last(("text", "a", "b"), ("window", 60, 0), ("shows",)), [2, 0, 0, 1, 0, 1, 0, 1, 0])

    def test_the_least_window(self):
        self.assertEqual(last(THIRTY, ("window", 1, 0), ("goto", 12, 1), ("shows",)), [1, 12, 0, 1, 0])


class At(unittest.TestCase):
    def test_the_row_is_counted_from_the_top(self):
        self.assertEqual(ask(THIRTY, ("goto", 19, 0), ("at", 0, 0), ("at", 9, 1), ("at", 4, 19))[2:],
                         [[10, 0], [19, 1], [14, 1]])

    def test_hidden_lines_are_not_there(self):
        self.assertEqual(ask(THIRTY, ("fold", 1, 20), ("at", 1, 0), ("at", 2, 0))[2:], [[1, 0], [20, 0]])

    def test_the_least_and_the_greatest(self):
        answers = ask(THIRTY, ("at", 9, 19), ("at", 10, 19), ("at", 9, 20), ("window", 30, 0), ("at", 29, 0), ("at", 30, 0))
        self.assertEqual(answers[1:4], [[9, 1], [-1], [-1]])
        self.assertEqual(answers[5:], [[29, 0], [-1]])

    def test_no_row_of_the_text_is_there(self):
        self.assertEqual(ask(("text", "a", "b"), ("at", 1, 0), ("at", 2, 0), ("at", 9, 19))[1:], [[1, 0], [-6], [-6]])


class Where(unittest.TestCase):
    def test_the_row_is_counted_from_the_top(self):
        self.assertEqual(ask(THIRTY, ("goto", 19, 0), ("where", 10, 0), ("where", 19, 1), ("where", 14, 1))[2:],
                         [[0, 0], [9, 1], [4, 1]])

    def test_what_is_not_in_the_window(self):
        self.assertEqual(ask(THIRTY, ("goto", 19, 0), ("where", 9, 0), ("where", 20, 0))[2:], [[-7], [-7]])

    def test_a_line_partly_in_the_window(self):
        answers = ask(("look", 4, 8, 0, 0, 0), ("window", 2, 0), ("text", "abcdefghijkl"), ("goto", 0, 9),
                      ("where", 0, 3), ("where", 0, 4), ("where", 0, 12))
        self.assertEqual(answers[4:], [[-7], [0, 0], [1, 3]])

    def test_what_is_hidden(self):
        self.assertEqual(ask(THIRTY, ("fold", 2, 5), ("where", 2, 0), ("where", 3, 0), ("where", 4, 1), ("where", 5, 0))[2:],
                         [[2, 0], [-6], [-6], [3, 0]])


if __name__ == "__main__":
    unittest.main()
