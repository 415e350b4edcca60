"""How lines are cut into rows, and which columns and places are in them: look, rows, at, where."""

import unittest

from tests.helper import ask, last, row_list, rows_of

FOX = "the quick brown fox jumps"


def look(wide, tab=8, more=0, hang=0, words=0):
    return (wide, tab, more, hang, words)


class RowsWithoutWords(unittest.TestCase):
    def test_a_line_without_bytes_has_one_row(self):
        self.assertEqual(rows_of(""), [(0, 0, 0)])
        self.assertEqual(rows_of("", look(4, more=2, hang=1, words=1)), [(0, 0, 0)])

    def test_a_row_takes_as_many_bytes_as_fit(self):
        self.assertEqual(rows_of("abc", look(4)), [(0, 3, 0)])
        self.assertEqual(rows_of("abcd", look(4)), [(0, 4, 0)])
        self.assertEqual(rows_of("abcde", look(4)), [(0, 4, 0), (4, 5, 0)])
        self.assertEqual(rows_of("abcdefgh", look(4)), [(0, 4, 0), (4, 8, 0)])
        self.assertEqual(rows_of("ab cd ef", look(4)), [(0, 4, 0), (4, 8, 0)])
        self.assertEqual(rows_of("abcd  ef", look(4)), [(0, 4, 0), (4, 8, 0)])

    def test_the_greatest_width(self):
        self.assertEqual(rows_of("a" * 120, look(100)), [(0, 100, 0), (100, 120, 0)])

    def test_a_control_byte_takes_two_columns(self):
        for byte in (0, 1, 8, 11, 31, 127):
            with self.subTest(byte=byte):
                self.assertEqual(rows_of([byte] * 3, look(4)), [(0, 2, 0), (2, 3, 0)])

    def test_any_other_byte_takes_one_column(self):
        for byte in (32, 33, 126, 128, 255):
            with self.subTest(byte=byte):
                self.assertEqual(rows_of([byte] * 5, look(4)), [(0, 4, 0), (4, 5, 0)])

    def test_a_control_byte_at_a_rows_end(self):
        self.assertEqual(rows_of("ab\x01c", look(4)), [(0, 3, 0), (3, 4, 0)])
        self.assertEqual(rows_of("abc\x01d", look(4)), [(0, 3, 0), (3, 5, 0)])
        self.assertEqual(rows_of("abc\x7f", look(4)), [(0, 3, 0), (3, 4, 0)])

    def test_a_tab_goes_to_the_next_multiple(self):
        columns = [row[1] for row in ask(("look",) + look(100, tab=4), ("text", "\ta\tbcd\te\t\tf"),
                                         *[("where", 0, place) for place in range(12)])[2:]]
        self.assertEqual(columns, [0, 4, 5, 8, 9, 10, 11, 12, 13, 16, 20, 21])

    def test_the_least_and_the_greatest_tab(self):
        self.assertEqual(last(("look",) + look(100, tab=1), ("text", "a\tb"), ("where", 0, 2)), [0, 2])
        self.assertEqual(last(("look",) + look(100, tab=16), ("text", "a\tb"), ("where", 0, 2)), [0, 16])

    def test_a_tab_at_a_rows_end(self):
        self.assertEqual(rows_of("abcde\tx", look(8, tab=4)), [(0, 6, 0), (6, 7, 0)])
        self.assertEqual(rows_of("abcdefgh\tx", look(10)), [(0, 8, 0), (8, 10, 0)])

    def test_a_row_takes_one_byte_even_if_it_does_not_fit(self):
        self.assertEqual(rows_of("\t\tab", look(4, tab=16)), [(0, 1, 0), (1, 2, 0), (2, 4, 0)])
        self.assertEqual(rows_of("ab\t", look(4, tab=16)), [(0, 2, 0), (2, 3, 0)])


class RowsWithWords(unittest.TestCase):
    def test_rows_end_behind_the_last_blank(self):
        self.assertEqual(rows_of(FOX, look(8, words=1)),
                         [(0, 4, 0), (4, 10, 0), (10, 16, 0), (16, 20, 0), (20, 25, 0)])
        self.assertEqual(rows_of(FOX, look(10, words=1)), [(0, 10, 0), (10, 20, 0), (20, 25, 0)])
        self.assertEqual(rows_of("ab\tcdef", look(4, tab=3, words=1)), [(0, 3, 0), (3, 7, 0)])

    def test_at_the_beginning_the_look_is_20_8_0_0_1(self):
        self.assertEqual(rows_of(FOX), [(0, 20, 0), (20, 25, 0)])
        self.assertEqual(rows_of("  " + FOX), [(0, 18, 0), (18, 27, 0)])
        self.assertEqual(last(("text", "a\tb"), ("where", 0, 2)), [0, 8])

    def test_blanks_hang_over_the_edge(self):
        self.assertEqual(rows_of(FOX, look(9, words=1)), [(0, 10, 0), (10, 20, 0), (20, 25, 0)])
        self.assertEqual(rows_of("abcd   ef", look(4, words=1)), [(0, 7, 0), (7, 9, 0)])
        self.assertEqual(rows_of("abcd \t x", look(4, words=1)), [(0, 7, 0), (7, 8, 0)])
        self.assertEqual(rows_of("a bcd ef", look(5, words=1)), [(0, 6, 0), (6, 8, 0)])

    def test_a_tab_hangs_over_the_edge(self):
        self.assertEqual(rows_of("abcdefgh\tx", look(10, words=1)), [(0, 9, 0), (9, 10, 0)])

    def test_blanks_that_are_all_that_is_left_make_the_last_row(self):
        self.assertEqual(rows_of("abcd   ", look(4, words=1)), [(0, 7, 0)])
        self.assertEqual(rows_of("      ", look(4, words=1)), [(0, 6, 0)])
        self.assertEqual(rows_of("\t\t", look(4, tab=16, words=1)), [(0, 2, 0)])

    def test_a_word_longer_than_a_row_is_cut(self):
        self.assertEqual(rows_of("abcdefghij", look(4, words=1)), [(0, 4, 0), (4, 8, 0), (8, 10, 0)])
        self.assertEqual(rows_of("a bcdefgh", look(4, words=1)), [(0, 2, 0), (2, 6, 0), (6, 9, 0)])

    def test_blanks_at_the_beginning_are_blanks_too(self):
        self.assertEqual(rows_of("  abcdef", look(4, words=1)), [(0, 2, 0), (2, 6, 0), (6, 8, 0)])

    def test_a_control_byte_is_no_blank(self):
        self.assertEqual(rows_of("ab\x01\x01c", look(4, words=1)), [(0, 3, 0), (3, 5, 0)])
        self.assertEqual(rows_of("abcd\x01", look(4, words=1)), [(0, 4, 0), (4, 5, 0)])


class Inset(unittest.TestCase):
    def test_more_is_where_all_rows_but_the_first_begin(self):
        self.assertEqual(rows_of("abcdefghijk", look(6, more=2)), [(0, 6, 0), (6, 10, 2), (10, 11, 2)])

    def test_an_inset_not_below_wide_less_1_is_0(self):
        self.assertEqual(rows_of("abcdefghij", look(6, more=4)), [(0, 6, 0), (6, 8, 4), (8, 10, 4)])
        self.assertEqual(rows_of("abcdefghij", look(6, more=5)), [(0, 6, 0), (6, 10, 0)])
        self.assertEqual(rows_of("abcdefghij", look(6, more=6)), [(0, 6, 0), (6, 10, 0)])
        self.assertEqual(rows_of("abcdefghij", look(6, more=100)), [(0, 6, 0), (6, 10, 0)])

    def test_hang_adds_the_blanks_at_the_beginning(self):
        self.assertEqual(rows_of("  abcdefgh", look(6, hang=1)), [(0, 6, 0), (6, 10, 2)])
        self.assertEqual(rows_of("  abcdefgh", look(6, hang=0)), [(0, 6, 0), (6, 10, 0)])
        self.assertEqual(rows_of("  abcdefgh", look(6, more=1, hang=1)), [(0, 6, 0), (6, 9, 3), (9, 10, 3)])
        self.assertEqual(rows_of("  a   bcdefgh", look(6, hang=1)), [(0, 6, 0), (6, 10, 2), (10, 13, 2)])
        self.assertEqual(rows_of("a  bcdefgh", look(6, hang=1)), [(0, 6, 0), (6, 10, 0)])

    def test_hang_counts_tabs_as_columns(self):
        self.assertEqual(rows_of("\tabcdefghijkl", look(12, tab=4, hang=1)), [(0, 9, 0), (9, 13, 4)])
        self.assertEqual(rows_of(" \tabcdefghijkl", look(12, tab=4, hang=1)), [(0, 10, 0), (10, 14, 4)])
        # The blanks are counted from column 0, not from more on.
        self.assertEqual(rows_of("\tabcdefghijkl", look(12, tab=4, more=2, hang=1)), [(0, 9, 0), (9, 13, 6)])

    def test_too_many_blanks_give_no_inset(self):
        self.assertEqual(rows_of("    abcde", look(6, hang=1)), [(0, 6, 0), (6, 8, 4), (8, 9, 4)])
        self.assertEqual(rows_of("     abcde", look(6, hang=1)), [(0, 6, 0), (6, 10, 0)])
        self.assertEqual(rows_of("    abcde", look(6, more=1, hang=1)), [(0, 6, 0), (6, 9, 0)])

    def test_a_tab_behind_the_inset_goes_to_a_multiple_all_the_same(self):
        answers = ask(("look",) + look(8, tab=4, more=2), ("text", "abcdefgh\tx"), ("rows", 0), ("where", 0, 9))
        self.assertEqual(row_list(answers[2], 3), [(0, 8, 0), (8, 10, 2)])
        self.assertEqual(answers[3], [1, 4])


class PlacesAndColumns(unittest.TestCase):
    def places(self, line, the_look, *asked):
        return ask(("look",) + the_look, ("text", line), *asked)[2:]

    def test_a_place_is_in_the_row_with_the_byte_behind_it(self):
        self.assertEqual(self.places("abcdef", look(4), ("where", 0, 3), ("where", 0, 4), ("where", 0, 5)),
                         [[0, 3], [1, 0], [1, 1]])

    def test_a_lines_end_is_in_its_last_row(self):
        self.assertEqual(self.places("abcdef", look(4), ("where", 0, 6)), [[1, 2]])
        self.assertEqual(self.places("", look(4), ("where", 0, 0)), [[0, 0]])

    def test_a_column_is_at_most_wide_less_1(self):
        self.assertEqual(self.places("abcd", look(4), ("where", 0, 3), ("where", 0, 4)), [[0, 3], [0, 3]])
        self.assertEqual(self.places("abcd   ef", look(4, words=1), ("where", 0, 5), ("where", 0, 6), ("where", 0, 7)),
                         [[0, 3], [0, 3], [1, 0]])

    def test_a_column_counts_from_the_rows_first_column(self):
        self.assertEqual(self.places("abcdefgh", look(6, more=2), ("where", 0, 6), ("where", 0, 8)), [[1, 2], [1, 4]])

    def test_the_place_for_a_column(self):
        self.assertEqual(self.places("a\tb", look(20), ("at", 0, 0), ("at", 0, 1), ("at", 0, 7), ("at", 0, 8),
                                     ("at", 0, 9), ("at", 0, 19)),
                         [[0, 0], [0, 1], [0, 1], [0, 2], [0, 3], [0, 3]])
        self.assertEqual(self.places("\x01b", look(20), ("at", 0, 1), ("at", 0, 2)), [[0, 0], [0, 1]])

    def test_the_place_for_a_column_takes_real_columns(self):
        self.assertEqual(self.places("abcd", look(4), ("at", 0, 3)), [[0, 3]])
        self.assertEqual(self.places("abcd   ef", look(4, words=1), ("at", 0, 3)), [[0, 3]])

    def test_of_a_row_that_is_not_the_last_at_most_ahead_of_its_last_byte(self):
        self.assertEqual(self.places("ab cdefg", look(6, words=1), ("at", 0, 2), ("at", 0, 3), ("at", 0, 5)),
                         [[0, 2], [0, 2], [0, 2]])
        self.assertEqual(self.places("ab cdefg", look(6, words=1), ("at", 1, 4), ("at", 1, 5)), [[0, 7], [0, 8]])

    def test_ahead_of_the_rows_first_column_it_is_the_rows_first_place(self):
        self.assertEqual(self.places("abcdefgh", look(6, more=2), ("at", 1, 0), ("at", 1, 2), ("at", 1, 3)),
                         [[0, 6], [0, 6], [0, 7]])


class RowsCall(unittest.TestCase):
    def test_each_line_is_asked_by_its_number(self):
        answers = ask(("text", "", "ab", FOX), ("rows", 0), ("rows", 1), ("rows", 2))
        self.assertEqual(answers[1:], [[1, 0, 0, 0], [1, 0, 2, 0], [2, 0, 20, 0, 20, 25, 0]])

    def test_a_hidden_line_has_its_rows(self):
        self.assertEqual(last(("text", "a", FOX, "b"), ("fold", 0, 3), ("rows", 1)), [2, 0, 20, 0, 20, 25, 0])

    def test_a_new_text_has_one_row(self):
        self.assertEqual(ask(("rows", 0)), [[1, 0, 0, 0]])


if __name__ == "__main__":
    unittest.main()
