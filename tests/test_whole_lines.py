"""Whole lists of calls: the longest, begins in the middle, and every refusal between other calls."""
import unittest

from line import BEGINS, BEST, LARGEST, PLAIN, all_told, check, costume, joined, kind, more, need
from wardrobes.wardrobe import answers

GOWNS = [kind(1, 70), kind(0, 5), costume(0, 50, 10), costume(0, 44, 2), need(3, 0, 45), need(3, 1, 9), need(4, 0, 55)]
GOWNS_NUMBERS = [[0], [1], [0], [1], [0], [1], [2]]
ASKED = [BEST, PLAIN, check(1, 2, 0), check(0, 2, 0), check(1, 2, 1), check(0, 0, 0), check(3, 3, 3), check(2, 2),
         more(1, 9), more(1, 10)]
ASKED_TOLD = [[5, 1, 1, 2, 0], [75, 0, 2, 2], [5], [-6, 2, 0], [-6, 2, 2], [-6, 1, 1], [-1], [-1],
              [5, 1, 1, 2, 0], [0, 1, 1, 3, 0]]


class TheLists(unittest.TestCase):
    def test_as_they_stand(self):
        calls = [1, 1, 70, 2, 0, 50, 10, 3, 3, 0, 45, 3, 4, 0, 55, 4, 6, 5, 2, 0, 1, 5, 2, 0, 0, 5, 0, 7, 0, 44, 2]
        self.assertEqual(answers(calls), [1, 0, 1, 0, 1, 0, 1, 1, 4, 70, 2, 0, 1, 3, 70, 0, 1, 1, 70, 3, -6, 1, 0,
                                          1, -1, 4, 70, 1, 1, 0])

    def test_each_call_alone(self):
        self.assertEqual(answers([4]), [2, 0, 1])
        self.assertEqual(answers([5, 0]), [1, 0])
        self.assertEqual(answers([5, 1, 0]), [1, -1])
        self.assertEqual(answers([5, 8, 0, 1, 2, 3, 4, 5, 6, 7]), [1, -1])
        self.assertEqual(answers([6]), [1, 0])
        self.assertEqual(answers([7, 0, 0, 0]), [1, -2])

    def test_answers_are_whole_numbers(self):
        given = answers(joined(GOWNS + ASKED))
        self.assertIs(type(given), list)
        self.assertEqual({type(number) for number in given}, {int})


class Begins(unittest.TestCase):
    def test_all_calls_behind_it(self):
        for before in ([], [BEGINS], [kind(9, 9)] * 4, GOWNS, GOWNS + [need(1000, 0, 0)] * 3 + [costume()] * 2):
            with self.subTest(before=before):
                found = all_told(*before, BEGINS, BEST, PLAIN, check(), check(0), more(), *GOWNS, *ASKED[:8])
                self.assertEqual(found[len(before):],
                                 [[0], [0, 1], [0], [0], [-1], [-2]] + GOWNS_NUMBERS + ASKED_TOLD[:8])

    def test_what_was_is_as_good_as_never_told(self):
        self.assertEqual(all_told(*GOWNS, *ASKED[:8], BEGINS, *GOWNS, *ASKED),
                         GOWNS_NUMBERS + ASKED_TOLD[:8] + [[0]] + GOWNS_NUMBERS + ASKED_TOLD)


class Sixty(unittest.TestCase):
    def test_each_sort_of_call(self):
        calls = [*GOWNS, *ASKED, BEGINS, *GOWNS, *ASKED, kind(11), costume(2), need(2), need(4, 0, 1001),
                 costume(0, 1001), need(4, 2), kind(0, 100001), *ASKED[1:8], costume(1, 9), *ASKED[:3], check(1, 3, 0),
                 check(1, 2, 0), check(3, 3, 3), check(4, 3, 3), check(3, 0, 3), more(1, 9), PLAIN]
        self.assertEqual(len(calls), 60)
        told = [*GOWNS_NUMBERS, *ASKED_TOLD, [0], *GOWNS_NUMBERS, *ASKED_TOLD, [-1], [-2], [-1], [-1],
                [-1], [-2], [-1], *ASKED_TOLD[1:8], [2], [0, 1, 1, 2, 0], [70, 0, 2, 3], [0], [5],
                [0], [145], [-1], [-6, 1, 1], [0, 2, 1, 2, 0], [70, 0, 2, 3]]
        self.assertEqual(all_told(*calls), told)

    def test_of_one_sort(self):
        self.assertEqual(all_told(*GOWNS, *[PLAIN] * 53)[7:], [[75, 0, 2, 2]] * 53)
        self.assertEqual(all_told(*GOWNS, *[check(1, 2, 1)] * 53)[7:], [[-6, 2, 2]] * 53)
        self.assertEqual(all_told(*[check(*[LARGEST] * 8)] * 60), [[-1]] * 60)
        self.assertEqual(all_told(*[PLAIN] * 52, *[BEST] * 8), [[0]] * 52 + [[0, 1]] * 8)


class EveryRefusal(unittest.TestCase):
    def test_all_is_as_it_was(self):
        full = [kind(1, 70), kind(0, 5), kind(10, 100), kind(3, 1), costume(0, 50, 10), costume(0, 44, 2),
                costume(1, 9, 3), costume(2, 30, 5), need(3, 0, 45), need(3, 1, 9), need(4, 0, 55), need(4, 2, 33),
                need(5, 2, 34), need(5, 3, 0)]
        asked = [BEST, PLAIN, check(1, 2, 0, 3, 4, 4), check(0, 2, 0, 3, 4, 4), check(4, 4, 4, 4, 4, 4), more(2, 34),
                 need(5), costume(), kind(), need(4)]
        told = all_told(*full, *asked)[14:]
        self.assertEqual(told, [[101, 2, 1, 2, 0, 3, 4, 4], [171, 0, 2, 4, 3, 4, 4], [101], [-6, 2, 0], [346],
                                [100, 1, 1, 2, 0, 3, 4, 5], [-5], [-5], [-5], [-1]])
        refused = {-1: [kind(11), kind(0, 100001), kind(LARGEST, LARGEST), costume(0, 1001), costume(3, 0, 1001),
                        need(4), need(1001), need(5, 0, 1001), check(), check(1, 2, 0, 3, 4), check(*[4] * 7),
                        check(*[4] * 8), check(5, 2, 0, 3, 4, 4), check(4, 4, 4, 4, 4, LARGEST), more(0, 1001),
                        more(0, 0, 1001)],
                   -2: [costume(4), costume(LARGEST, LARGEST), need(5, 4), need(0, LARGEST), more(4), more(LARGEST)],
                   -5: [kind(), kind(10, 100000), costume(), costume(3, 1000, 1000), need(5), need(1000, 3, 1000)],
                   -6: [check(0, 2, 0, 3, 4, 4), check(2, 2, 2, 2, 2, 2)]}
        for why, calls in refused.items():
            for call in calls:
                with self.subTest(refused=call):
                    found = all_told(*full, call, *asked)
                    self.assertEqual(found[14][0], why)
                    self.assertEqual(len(found[14]), 3 if why == -6 else 1)
                    self.assertEqual(found[15:], told)

    def test_where_there_is_room(self):
        told = all_told(*GOWNS, *ASKED, kind(), costume(), need(4))[7:]
        for call in (kind(11), kind(0, 100001), costume(2), costume(0, 1001), costume(0, 0, 1001), need(4, 2), need(2),
                     need(1001), need(4, 0, 1001), check(3, 3, 3), check(0), check(0, 0, 0), more(2), more(0, 1001)):
            with self.subTest(refused=call):
                found = all_told(*GOWNS, call, *ASKED, kind(), costume(), need(4))
                self.assertLess(found[7][0], 0)
                self.assertEqual(found[8:], told)


if __name__ == "__main__":
    unittest.main()
