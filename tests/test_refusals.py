"""What is refused, with which number, which one of several, and that all is as it was then."""

import unittest

from tests.helper import ask

GREATEST = 4294967295
LONG = "x" * 121

LINES = ("abcdefgh", "ab") + tuple("line %d, which has two rows" % k for k in range(2, 20))
SETUP = (
    ("look", 17, 4, 1, 1, 1), ("window", 7, 2), ("text",) + LINES,
    ("fold", 4, 6), ("fold", 4, 9), ("fold", 2, 9), ("goto", 0, 6), ("fold", 15, 18), ("down", 1),
)

# What is asked to see whether anything has changed: the wished column, the folds, the lines, the window.
PROBES = (
    ("point",), ("shows",), ("down", 1), ("up", 1), ("up", 1), ("down", 8), ("shows",), ("window", 9, 60), ("shows",),
    ("goto", 5, 3), ("shows",), ("unfold", 15), ("shows",),
) + tuple(("rows", line) for line in range(20)) + (("rows", 20),)

REFUSED = (
    # 1.
    (("look", 3, 8, 0, 0, 0), -1), (("look", 0, 8, 0, 0, 0), -1), (("look", 101, 8, 0, 0, 0), -1),
    (("look", GREATEST, 8, 0, 0, 0), -1), (("look", 20, 0, 0, 0, 0), -1), (("look", 20, 17, 0, 0, 0), -1),
    (("look", 20, GREATEST, 0, 0, 0), -1), (("look", 20, 8, 101, 0, 0), -1), (("look", 20, 8, GREATEST, 0, 0), -1),
    (("look", 20, 8, 0, 2, 0), -1), (("look", 20, 8, 0, 0, 2), -1),
    (("window", 0, 0), -1), (("window", 61, 0), -1), (("window", GREATEST, 0), -1), (("window", 60, 61), -1),
    (("window", 10, GREATEST), -1),
    # 2.
    (("text",), -1), (("text",) + ("",) * 31, -1), (("text",) + ("",) * 3999, -1), (("text", LONG), -1),
    (("text", "a", LONG), -1), (("text", "a\n"), -1), (("text", "a", [10], "b"), -1), (("text", [256]), -1),
    (("text", "a", [97, GREATEST]), -1),
    (("edit", 1, 0, "x"), -1), (("edit", 20, 19, "x"), -1), (("edit", 0, 21, "x"), -1), (("edit", 21, 21, "x"), -1),
    (("edit", GREATEST, GREATEST, "x"), -1), (("edit", GREATEST, 0, "x"), -1), (("edit", 0, GREATEST, "x"), -1),
    (("edit", 0, 1, LONG), -1), (("edit", 0, 1, "a", "b\nc"), -1), (("edit", 0, 1, [256], "b"), -1),
    (("edit", 0, 20), -5), (("edit", 20, 20) + ("x",) * 11, -5), (("edit", 0, 20) + ("x",) * 31, -5),
    (("edit", 3, 3) + ("",) * 3990, -5),
    # 2., several at once.
    (("edit", 20, 20, "x\n") + ("x",) * 10, -1), (("edit", 0, 21), -1), (("edit", 3, 2) + ("x",) * 40, -1),
    # 3.
    (("fold", 3, 3), -1), (("fold", 3, 4), -1), (("fold", 4, 2), -1), (("fold", 9, 0), -1), (("fold", 19, 21), -1),
    (("fold", 0, 21), -1), (("fold", GREATEST, 0), -1), (("fold", 0, GREATEST), -1), (("fold", 20, 22), -1),
    (("fold", 4, 6), -4), (("fold", 4, 9), -4), (("fold", 2, 9), -4), (("fold", 15, 18), -4),
    (("fold", 3, 5), -4), (("fold", 5, 7), -4), (("fold", 0, 3), -4), (("fold", 8, 10), -4), (("fold", 17, 20), -4),
    (("fold", 10, 16), -4), (("fold", 5, 16), -4),
    (("unfold", 20), -1), (("unfold", GREATEST), -1), (("unfold", 0), -6), (("unfold", 1), -6), (("unfold", 9), -6),
    (("unfold", 14), -6), (("unfold", 18), -6), (("unfold", 19), -6),
    # 3., several at once.
    (("fold", 15, 21), -1), (("fold", 3, 21), -1),
    # 4.
    (("goto", 20, 0), -1), (("goto", GREATEST, 0), -1), (("goto", 1, 3), -1), (("goto", 5, 27), -1),
    (("goto", 5, GREATEST), -1),
    (("up", 101), -1), (("down", 101), -1), (("left", 101), -1), (("right", 101), -1), (("scroll", 0, 101), -1),
    (("scroll", 1, 101), -1), (("up", GREATEST), -1), (("down", GREATEST), -1), (("left", GREATEST), -1),
    (("right", GREATEST), -1), (("scroll", 0, GREATEST), -1), (("scroll", 1, GREATEST), -1),
    # 5.
    (("rows", 20), -1), (("rows", GREATEST), -1),
    (("at", 7, 0), -1), (("at", 0, 17), -1), (("at", GREATEST, 0), -1), (("at", 0, GREATEST), -1),
    (("where", 20, 0), -1), (("where", GREATEST, 0), -1), (("where", 1, 3), -1), (("where", 5, GREATEST), -1),
    (("where", 3, 0), -6), (("where", 8, 5), -6), (("where", 17, 0), -6),
    (("where", 19, 0), -7), (("where", 18, 5), -7),
    # 5., several at once.
    (("where", 3, 27), -1), (("where", 19, 28), -1),
)


class Refusals(unittest.TestCase):
    def test_each_is_refused_by_its_number_and_all_is_as_it_was(self):
        as_it_was = ask(*SETUP, *PROBES)[len(SETUP):]
        for call, number in REFUSED:
            with self.subTest(call=call[:6]):
                given = ask(*SETUP, call, *PROBES)[len(SETUP):]
                self.assertEqual(given[0], [number])
                self.assertEqual(given[1:], as_it_was)

    def test_the_setup_itself_is_not_refused(self):
        for answer in ask(*SETUP):
            self.assertEqual(len(answer), 4)

    def test_hidden_is_told_ahead_of_not_in_the_window(self):
        self.assertEqual(ask(*SETUP, ("where", 17, 0), ("where", 18, 0))[-2:], [[-6], [-7]])

    def test_outside_the_window_is_told_ahead_of_no_row(self):
        self.assertEqual(ask(("at", 1, 0), ("at", 10, 0), ("at", 1, 20), ("at", 10, 20))[:4], [[-6], [-1], [-1], [-1]])

    def test_with_twelve_folds_the_other_refusals_are_told_first(self):
        folds = [("fold", 2 * k, 2 * k + 2) for k in range(12)]
        given = ask(("text",) + ("x",) * 30, *folds, ("fold", 24, 26), ("fold", 0, 2), ("fold", 1, 3), ("fold", 29, 31),
                    ("fold", 24, 25))
        self.assertEqual(given[13:], [[-5], [-4], [-4], [-1], [-1]])

    def test_a_refusal_ahead_of_the_first_text(self):
        self.assertEqual(ask(("unfold", 0), ("unfold", 1), ("goto", 0, 1), ("fold", 0, 1), ("edit", 0, 1), ("where", 0, 1),
                             ("rows", 1), ("point",)),
                         [[-6], [-1], [-1], [-1], [-5], [-1], [-1], [0, 0, 0, 0]])


class LeastAndGreatest(unittest.TestCase):
    def test_they_are_not_refused(self):
        for call in (("look", 4, 1, 0, 0, 0), ("look", 100, 16, 100, 1, 1), ("window", 1, 0), ("window", 60, 60),
                     ("text", ""), ("text",) + ("x" * 120,) * 30, ("edit", 0, 20, ""), ("edit", 20, 20) + ("x",) * 10,
                     ("edit", 0, 0), ("edit", 20, 20), ("edit", 0, 19), ("edit", 0, 1, [0, 9, 11, 255]),
                     ("fold", 0, 2), ("fold", 18, 20), ("fold", 0, 20), ("unfold", 2), ("unfold", 17),
                     ("goto", 0, 0), ("goto", 19, 27), ("goto", 5, 26),
                     ("up", 0), ("up", 100), ("down", 0), ("down", 100), ("left", 0), ("left", 100), ("right", 0),
                     ("right", 100), ("scroll", 0, 0), ("scroll", 1, 0), ("scroll", 0, 100), ("scroll", 1, 100)):
            with self.subTest(call=call[:6]):
                self.assertEqual(len(ask(*SETUP, call)[-1]), 4)
        for call in (("at", 0, 0), ("at", 6, 16), ("where", 0, 0), ("where", 1, 2)):
            with self.subTest(call=call):
                self.assertEqual(len(ask(*SETUP, call)[-1]), 2)


if __name__ == "__main__":
    unittest.main()
