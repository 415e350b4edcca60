"""Folds: fold, unfold, what goto opens, and what an edit does to them."""

import unittest

from tests.helper import ask, last, row_list

TEN = ("text", "l0", "l1", "l2", "l3", "l4", "l5", "l6", "l7", "l8", "l9")


def shown(*calls):
    """The numbers of the lines that are seen after these calls on ten lines."""
    answer = last(("window", 60, 0), TEN, *calls, ("shows",))
    return [row[0] for row in row_list(answer, 4)]


class Fold(unittest.TestCase):
    def test_a_fold_hides_all_but_its_first_line(self):
        self.assertEqual(shown(("fold", 2, 5)), [0, 1, 2, 5, 6, 7, 8, 9])

    def test_the_whole_text_folds_to_one_line(self):
        self.assertEqual(shown(("fold", 0, 10)), [0])

    def test_two_lines_are_enough(self):
        self.assertEqual(shown(("fold", 8, 10)), [0, 1, 2, 3, 4, 5, 6, 7, 8])

    def test_folds_apart(self):
        self.assertEqual(shown(("fold", 0, 3), ("fold", 3, 5), ("fold", 7, 9)), [0, 3, 5, 6, 7, 9])

    def test_folds_within_one_another_with_a_shared_end(self):
        for inner, outer in (((2, 5), (2, 8)), ((5, 8), (2, 8)), ((3, 5), (2, 8))):
            with self.subTest(inner=inner):
                inner_first = ask(TEN, ("fold",) + inner, ("fold",) + outer)
                outer_first = ask(TEN, ("fold",) + outer, ("fold",) + inner)
                self.assertEqual([len(answer) for answer in inner_first + outer_first], [4] * 6)
                self.assertEqual(shown(("fold",) + inner, ("fold",) + outer), [0, 1, 2, 8, 9])

    def test_a_hidden_point_goes_to_the_folds_first_line(self):
        self.assertEqual(last(TEN, ("goto", 4, 2), ("fold", 2, 6)), [2, 2, 2, 2])
        self.assertEqual(last(TEN, ("goto", 2, 1), ("fold", 2, 6)), [2, 1, 2, 1])
        self.assertEqual(last(TEN, ("goto", 6, 1), ("fold", 2, 6)), [6, 1, 3, 1])

    def test_a_hidden_point_goes_to_a_shorter_lines_end(self):
        self.assertEqual(last(("text", "ab", "abcdef", "x"), ("goto", 1, 5), ("fold", 0, 2)), [0, 2, 0, 2])
        self.assertEqual(last(("text", "ab", "abcdef", "x"), ("goto", 1, 1), ("fold", 0, 2)), [0, 1, 0, 1])

    def test_the_point_goes_out_of_each_fold_made_around_it(self):
        answers = ask(("text", "abcd", "ab", "abcdef"), ("goto", 2, 6), ("fold", 1, 3), ("fold", 0, 3))
        self.assertEqual(answers[2:], [[1, 2, 1, 2], [0, 2, 0, 2]])

    def test_the_window_goes_along(self):
        # Four rows are left, as many as the window is high.
        answers = ask(("window", 4, 0), TEN, ("goto", 9, 0), ("fold", 1, 8), ("shows",))
        self.assertEqual(answers[3], [9, 0, 3, 0])
        self.assertEqual([row[0] for row in row_list(answers[4], 4)], [0, 1, 8, 9])

    def test_twelve_folds_are_let(self):
        lines = ("text",) + ("x",) * 30
        pairs = [("fold", 2 * k, 2 * k + 2) for k in range(12)]
        answers = ask(lines, *pairs, ("fold", 24, 26), ("fold", 0, 30), ("unfold", 0), ("fold", 24, 26), ("fold", 26, 28))
        self.assertEqual([len(answer) for answer in answers[:13]], [4] * 13)
        self.assertEqual(answers[13:15], [[-5], [-5]])
        self.assertEqual([len(answer) for answer in answers[15:17]], [4, 4])
        self.assertEqual(answers[17], [-5])


class Unfold(unittest.TestCase):
    def test_all_folds_that_have_the_line_go(self):
        nested = (("fold", 2, 4), ("fold", 1, 6), ("fold", 0, 9), ("fold", 6, 8))
        self.assertEqual(shown(*nested), [0, 9])
        self.assertEqual(shown(*nested, ("unfold", 3)), [0, 1, 2, 3, 4, 5, 6, 8, 9])
        self.assertEqual(shown(*nested, ("unfold", 5)), [0, 1, 2, 4, 5, 6, 8, 9])
        self.assertEqual(shown(*nested, ("unfold", 7)), [0, 1, 6, 7, 8, 9])
        self.assertEqual(shown(*nested, ("unfold", 8)), [0, 1, 6, 8, 9])

    def test_the_first_line_of_a_fold_is_in_it(self):
        self.assertEqual(shown(("fold", 2, 5), ("unfold", 2)), list(range(10)))
        self.assertEqual(shown(("fold", 2, 5), ("unfold", 4)), list(range(10)))

    def test_the_line_at_which_a_fold_ends_is_not_in_it(self):
        self.assertEqual(last(TEN, ("fold", 2, 5), ("unfold", 5)), [-6])
        self.assertEqual(last(TEN, ("fold", 2, 5), ("unfold", 1)), [-6])

    def test_the_point_stays_and_the_window_goes_along(self):
        answers = ask(("window", 4, 0), TEN, ("fold", 1, 8), ("goto", 9, 1), ("unfold", 3), ("shows",))
        self.assertEqual(answers[3:5], [[9, 1, 3, 1], [9, 1, 3, 1]])
        self.assertEqual([row[0] for row in row_list(answers[5], 4)], [6, 7, 8, 9])


class GotoOpens(unittest.TestCase):
    def test_folds_that_hide_the_line_go(self):
        nested = (("fold", 2, 5), ("fold", 1, 6), ("fold", 6, 9))
        self.assertEqual(shown(*nested, ("goto", 3, 0)), [0, 1, 2, 3, 4, 5, 6, 9])
        self.assertEqual(shown(*nested, ("goto", 2, 0)), [0, 1, 2, 5, 6, 9])

    def test_a_fold_whose_first_line_it_is_stays(self):
        self.assertEqual(shown(("fold", 2, 5), ("goto", 2, 0)), [0, 1, 2, 5, 6, 7, 8, 9])
        self.assertEqual(shown(("fold", 2, 5), ("goto", 5, 0)), [0, 1, 2, 5, 6, 7, 8, 9])


class FoldsAndEdits(unittest.TestCase):
    def hidden(self, folds, *edit):
        """How many lines there are after an edit, and which of them are hidden."""
        calls = [("fold",) + fold for fold in folds] + [("edit",) + edit]
        seen = shown(*calls)
        count = 10 - (edit[1] - edit[0]) + len(edit) - 2
        return count, [line for line in range(count) if line not in seen]

    def test_an_edit_ahead_of_a_fold_takes_it_along(self):
        self.assertEqual(self.hidden([(4, 7)], 0, 1, "x", "y", "z"), (12, [7, 8]))
        self.assertEqual(self.hidden([(4, 7)], 0, 2), (8, [3, 4]))
        self.assertEqual(self.hidden([(4, 7)], 3, 4, "x"), (10, [5, 6]))
        self.assertEqual(self.hidden([(4, 7)], 3, 4), (9, [4, 5]))

    def test_lines_put_in_at_a_folds_beginning_are_ahead_of_it(self):
        self.assertEqual(self.hidden([(4, 7)], 4, 4, "x"), (11, [6, 7]))

    def test_an_edit_behind_a_fold_lets_it_stay(self):
        self.assertEqual(self.hidden([(1, 4)], 4, 6), (8, [2, 3]))
        self.assertEqual(self.hidden([(1, 4)], 4, 4, "x", "y"), (12, [2, 3]))
        self.assertEqual(self.hidden([(1, 4)], 7, 10, "x"), (8, [2, 3]))

    def test_an_edit_within_a_fold_gives_it_the_new_lines(self):
        self.assertEqual(self.hidden([(1, 4)], 2, 3, "x", "y", "z"), (12, [2, 3, 4, 5]))
        self.assertEqual(self.hidden([(1, 4)], 2, 2, "x"), (11, [2, 3, 4]))
        self.assertEqual(self.hidden([(1, 4)], 3, 3, "x"), (11, [2, 3, 4]))
        self.assertEqual(self.hidden([(1, 4)], 2, 4, "x"), (9, [2]))
        self.assertEqual(self.hidden([(1, 4)], 3, 4), (9, [2]))

    def test_an_edit_across_a_folds_edge_takes_the_fold_away(self):
        self.assertEqual(self.hidden([(1, 4)], 3, 5, "x"), (9, []))
        self.assertEqual(self.hidden([(1, 4)], 0, 2, "x"), (9, []))
        self.assertEqual(self.hidden([(1, 4)], 0, 5, "x", "y", "z"), (8, []))
        self.assertEqual(self.hidden([(1, 4)], 1, 4, "x", "y", "z"), (10, []))
        self.assertEqual(self.hidden([(1, 4)], 1, 2, "x"), (10, []))
        self.assertEqual(self.hidden([(1, 4)], 1, 3, "x"), (9, []))

    def test_a_fold_left_with_fewer_than_two_lines_goes(self):
        self.assertEqual(self.hidden([(1, 4)], 2, 4), (8, []))
        # It is really gone: the same lines may be folded, and the line is in no fold.
        self.assertEqual(last(TEN, ("fold", 1, 4), ("edit", 2, 4), ("unfold", 1)), [-6])
        self.assertEqual(last(TEN, ("fold", 1, 4), ("edit", 2, 4, "x"), ("unfold", 1)), [0, 0, 0, 0])

    def test_inner_folds_go_where_outer_ones_stay(self):
        self.assertEqual(self.hidden([(1, 8), (3, 5)], 3, 5, "x"), (9, [2, 3, 4, 5, 6]))
        self.assertEqual(last(TEN, ("fold", 1, 8), ("fold", 3, 5), ("edit", 3, 5, "x", "y"), ("goto", 3, 0),
                              ("unfold", 3)), [-6])

    def test_of_folds_that_become_alike_one_stays(self):
        lines = ("text",) + ("x",) * 30
        pairs = [("fold", 2 * k, 2 * k + 2) for k in range(3, 13)]
        answers = ask(lines, ("fold", 0, 4), ("fold", 0, 5), *pairs, ("fold", 26, 28), ("edit", 4, 5),
                      ("fold", 0, 4), ("fold", 25, 27), ("fold", 27, 29))
        self.assertEqual(answers[13], [-5])
        self.assertEqual(answers[15], [-4])
        self.assertEqual(len(answers[16]), 4)
        self.assertEqual(answers[17], [-5])

    def test_text_takes_all_folds_away(self):
        self.assertEqual(last(TEN, ("fold", 0, 5), TEN, ("unfold", 0)), [-6])


if __name__ == "__main__":
    unittest.main()
