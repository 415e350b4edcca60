"""What holds over the whole: how calls are handed in and given back, nothing kept, nothing changed, in short time."""

import inspect
import time
import unittest

from foldview.view import answers
from tests.helper import handed, parted

SOME = (("text", "the quick brown fox jumps", "", "\tab\x01", "over"), ("fold", 1, 3), ("down", 2), ("shows",),
        ("unfold", 7), ("edit", 0, 1, "a", "b"), ("point",), ("where", 0, 0), ("at", 0, 3))


def blocked(self, *told):
    raise AssertionError("what is handed in is changed")


class Untouched(list):
    """A list that can't be changed, not for a while either."""

    append = extend = insert = pop = remove = clear = reverse = sort = blocked
    __setitem__ = __delitem__ = __iadd__ = __imul__ = blocked


class Interface(unittest.TestCase):
    def test_the_function_takes_calls_alone(self):
        self.assertEqual(list(inspect.signature(answers).parameters), ["calls"])
        self.assertEqual(answers(calls=[0, 1, 12]), [4, 0, 0, 0, 0])

    def test_numbers_as_they_are_handed_in_and_given_back(self):
        calls = [0, 6, 2, 2, 97, 98, 1, 99,  # text "ab", "c"
                 0, 3, 6, 1, 1,              # goto 1, 1
                 0, 1, 13,                   # shows
                 0, 2, 14, 2,                # rows 2
                 0, 5, 3, 0, 1, 1, 120,      # edit 0, 1, "x"
                 0, 4, 3, 0, 1, 0,           # edit 0, 1, ""
                 0, 3, 3, 0, 1,              # edit 0, 1 without lines
                 0, 1, 12]                   # point
        self.assertEqual(answers(calls), [4, 0, 0, 0, 0, 4, 1, 1, 1, 1, 9, 2, 0, 0, 2, 0, 1, 0, 1, 0, 1, -1,
                                          4, 1, 1, 1, 1, 4, 1, 1, 1, 1, 4, 0, 1, 0, 1, 4, 0, 1, 0, 1])

    def test_each_call_alone_on_a_new_text(self):
        expected = {
            ("look", 20, 8, 0, 0, 1): [0, 0, 0, 0], ("window", 10, 0): [0, 0, 0, 0], ("text", "ab"): [0, 0, 0, 0],
            ("edit", 0, 1, "ab"): [0, 0, 0, 0], ("fold", 0, 2): [-1], ("unfold", 0): [-6], ("goto", 0, 0): [0, 0, 0, 0],
            ("up", 1): [0, 0, 0, 0], ("down", 1): [0, 0, 0, 0], ("left", 1): [0, 0, 0, 0], ("right", 1): [0, 0, 0, 0],
            ("scroll", 0, 1): [0, 0, 0, 0], ("point",): [0, 0, 0, 0], ("shows",): [1, 0, 0, 0, 0],
            ("rows", 0): [1, 0, 0, 0], ("at", 0, 0): [0, 0], ("where", 0, 0): [0, 0],
        }
        self.assertEqual(len(expected), 17)
        for call, answer in expected.items():
            with self.subTest(call=call):
                self.assertEqual(parted(answers(handed([call]))), [answer])

    def test_whole_numbers_in_a_list_are_given_back(self):
        given = answers(handed(SOME))
        self.assertIs(type(given), list)
        for number in given:
            self.assertIs(type(number), int)


class NothingKept(unittest.TestCase):
    def test_what_is_handed_in_stays_as_it_was(self):
        calls = Untouched(handed(SOME))
        before = list(calls)
        answers(calls)
        self.assertEqual(list(calls), before)

    def test_each_time_is_as_the_first(self):
        first = answers(handed(SOME))
        self.assertEqual(answers([0, 1, 12, 0, 1, 13]), [4, 0, 0, 0, 0, 5, 1, 0, 0, 0, 0])
        self.assertEqual(answers(handed(SOME)), first)

    def test_what_is_given_back_is_new_each_time(self):
        calls = handed(SOME)
        first = answers(calls)
        copy = list(first)
        first.clear()
        self.assertEqual(answers(calls), copy)


class ShortTime(unittest.TestCase):
    def assert_short(self, calls):
        self.assertLessEqual(len(calls), 50)
        numbers = handed(calls)
        self.assertLessEqual(len(numbers), 30000)
        begin = time.perf_counter()
        given = parted(answers(numbers))
        self.assertLess(time.perf_counter() - begin, 5)
        self.assertEqual(len(given), len(calls))
        self.assertFalse([answer for answer in given if answer[0] < 0])

    def test_fifty_calls_on_the_longest_text(self):
        text = ("text",) + ("ab \x01\t" * 24,) * 30
        folds = [("fold", 2 * k, 2 * k + 2) for k in range(12)]
        moves = [("down", 100), ("up", 100), ("right", 100), ("left", 100), ("shows",), ("scroll", 0, 100)] * 5
        for look in (("look", 4, 16, 2, 1, 1), ("look", 100, 1, 0, 0, 0)):
            with self.subTest(look=look):
                self.assert_short([text, look, ("window", 60, 60)] + folds + moves + [("point",)] * 5)

    def test_as_many_numbers_as_may_be_handed_in(self):
        line = "\t" * 120
        self.assert_short([("look", 4, 16, 0, 0, 0)] + [("text",) + (line,) * 30] * 8 + [("down", 100), ("shows",)] * 20)


if __name__ == "__main__":
    unittest.main()
