"""The paragraph that closes the document: nothing handed in is changed, nothing is kept, printed, read, imported."""
import builtins
import contextlib
import io
import unittest
from unittest import mock

from line import BEGINS, BEST, LARGEST, PLAIN, check, costume, joined, kind, more, need
from wardrobes.wardrobe import answers

FILLED = [kind(10, 100000)] * 5 + [costume(3, 1000, 1000)] * 5 + [need(1000, 3, 1000)] * 7
MIXED = [kind(1, 2), BEGINS, costume(), kind(LARGEST), kind(3, 4), costume(0, 5, 6), need(7, 0, 8), need(6), need(7)]
MIXED_ANSWERS = [1, 0, 1, 0, 1, -2, 1, -1, 1, 0, 1, 0, 1, 0, 1, -1, 1, 1]
ASKED = MIXED + [BEST, PLAIN, check(0, 1), check(0, 0), check(2, 2), check(), more(0, 1, 1), more(1), more(0, LARGEST)]
ASKED_ANSWERS = MIXED_ANSWERS + [4, 4, 2, 0, 1, 3, 4, 0, 1, 1, 4, 3, -6, 1, 0, 1, -1, 1, -1, 4, 4, 1, 0, 1,
                                 1, -2, 1, -1]
LISTS = (FILLED, MIXED, ASKED, FILLED + [BEST, PLAIN, more(3), check(*[4] * 6), check(*[0] * 6), check(*[5] * 8)])


def refuse(*given, **named):
    raise AssertionError("this is not to be called")


class Unchanging(list):
    """A list that no call can change, not for a while either."""

    append = extend = insert = pop = remove = clear = sort = reverse = refuse
    __setitem__ = __delitem__ = __iadd__ = __imul__ = refuse


class HandedIn(unittest.TestCase):
    def test_the_list_is_the_same_afterwards(self):
        for calls in LISTS:
            handed = joined(calls)
            answers(handed)
            self.assertEqual(handed, joined(calls))

    def test_the_list_is_not_changed_for_a_while(self):
        for calls in LISTS:
            self.assertEqual(answers(Unchanging(joined(calls))), answers(joined(calls)))

    def test_what_is_given_back_is_a_new_list(self):
        handed = joined(ASKED)
        first = answers(handed)
        self.assertIsNot(first, handed)
        kept = list(first)
        first.clear()
        second = answers(handed)
        self.assertIsNot(first, second)
        self.assertEqual(second, kept)


class NothingIsKept(unittest.TestCase):
    def test_the_same_list_twice(self):
        for calls in LISTS:
            handed = joined(calls)
            self.assertEqual(answers(handed), answers(handed))

    def test_each_list_is_about_a_new_wardrobe(self):
        answers(joined(FILLED))
        self.assertEqual(answers(costume(0)), [1, -2])
        answers(joined(FILLED))
        self.assertEqual(answers(need(0)), [1, -2])
        answers(joined(FILLED))
        self.assertEqual(answers(joined([kind(), costume(), need(0)])), [1, 0, 1, 0, 1, 0])
        answers(joined(FILLED))
        self.assertEqual(answers(joined([BEST, PLAIN, check(), more()])), [2, 0, 1, 1, 0, 1, 0, 1, -2])

    def test_a_list_that_fails_leaves_nothing_behind(self):
        with contextlib.suppress(IndexError):
            answers([1, 0, 0, 1, 0])
        self.assertEqual(answers([1, 0, 0]), [1, 0])


class NothingElseIsDone(unittest.TestCase):
    def test_nothing_is_printed_read_or_imported(self):
        printed = io.StringIO()
        handed = joined(ASKED)
        with contextlib.redirect_stdout(printed), contextlib.redirect_stderr(printed), \
                mock.patch("sys.stdin", None), mock.patch.object(builtins, "open", refuse), \
                mock.patch.object(builtins, "input", refuse), mock.patch.object(builtins, "__import__", refuse):
            given = answers(handed)
        self.assertEqual(printed.getvalue(), "")
        self.assertEqual(given, ASKED_ANSWERS)


if __name__ == "__main__":
    unittest.main()
