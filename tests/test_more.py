"""more: how much less best would cost with one costume more, and what it refuses (point 2)."""
import itertools
import unittest

from line import BEST, LARGEST, PLAIN, all_told, check, costume, kind, last_told, more, need

FOUR_COSTUMES = [kind(3, 9), *[costume(0, 5)] * 4, *[need(night, 0, 5) for night in range(6)]]


class WhatItAnswers(unittest.TestCase):
    def test_no_needs(self):
        self.assertEqual(last_told(kind(0, 9), more()), [0, 1])
        self.assertEqual(last_told(kind(0, 9), *[costume()] * 4, more()), [0, 1])

    def test_the_first_costume_of_all(self):
        before = [kind(0, 9), need(0, 0, 5)]
        self.assertEqual(last_told(*before, more(0, 5)), [9, 1, 0])
        self.assertEqual(last_told(*before, more(0, 6)), [0, 1, 1])

    def test_nothing_is_spared(self):
        # It doesn't suit; it's of another kind; it's one more to choose from.
        before = [kind(0, 9), kind(0, 9), costume(0, 5), need(0, 0, 5)]
        self.assertEqual(last_told(*before, more(0, 7, 1)), [0, 1, 0])
        self.assertEqual(last_told(*before, more(1, 5, 9)), [0, 1, 0])
        self.assertEqual(last_told(*before, more(0, 7, 2)), [0, 2, 0])
        self.assertEqual(last_told(*before, need(0, 0, 5), more(1, 5, 9)), [0, 2, 0, 2])

    def test_hired_has_the_number_behind_the_new_one(self):
        before = [kind(9, 8), costume(), costume(), *[need()] * 4]
        self.assertEqual(all_told(*before, BEST, more())[-2:], [[16, 12, 0, 1, 2, 2], [8, 24, 0, 1, 2, 3]])

    def test_what_is_spared_is_the_difference_not_the_cost(self):
        before = [kind(9, 100), kind(9, 7), need(0, 0), need(0, 0), need(0, 0), need(0, 1)]
        self.assertEqual(all_told(*before, BEST, more(0), more(1))[-3:],
                         [[307, 1, 0, 0, 0, 0], [100, 3, 0, 1, 1, 1], [7, 1, 1, 1, 1, 0]])

    def test_the_size_and_the_give_are_the_new_ones(self):
        before = [kind(0, 9), need(0, 0, 500), need(1, 0, 508)]
        self.assertEqual(last_told(*before, more(0, 504, 4)), [18, 1, 0, 0])
        self.assertEqual(last_told(*before, more(0, 503, 4)), [9, 1, 0, 1])
        self.assertEqual(last_told(*before, more(0, 505, 4)), [9, 1, 1, 0])
        self.assertEqual(last_told(*before, more(0, 504, 3)), [0, 1, 1, 1])

    def test_away_as_its_kind(self):
        before = [kind(0, 9), kind(2, 9), need(0, 1), need(2, 1), need(3, 1)]
        self.assertEqual(last_told(*before, more(1)), [18, 1, 0, 1, 0])

    def test_the_costumes_that_are_there_are_worn_otherwise_then(self):
        before = [kind(1, 70), costume(0, 50, 10), need(3, 0, 45), need(4, 0, 55)]
        self.assertEqual(all_told(*before, BEST, more(0, 44, 2))[-2:], [[70, 2, 0, 1], [70, 1, 1, 0]])

    def test_hired_for_nothing(self):
        self.assertEqual(last_told(kind(), costume(), need(0), need(1), more()), [0, 9, 0, 0])

    def test_the_most_that_can_be_spared(self):
        before = [kind(10, 100000), *[need(night, 0, 1000) for night in range(0, 66, 11)]]
        self.assertEqual(last_told(*before, more(0, 0, 1000)), [600000, 1] + [0] * 6)


class FiveCostumes(unittest.TestCase):
    def test_it_is_not_refused_where_there_are_four(self):
        # Of four costumes one is back for each of the two last needs, of five there are two.
        self.assertEqual(last_told(*FOUR_COSTUMES, costume(0, 5)), [-5])
        self.assertEqual(last_told(*FOUR_COSTUMES, BEST), [0, 24, 0, 1, 2, 3, 0, 1])
        self.assertEqual(last_told(*FOUR_COSTUMES, more(0, 5)), [0, 480, 0, 1, 2, 3, 0, 1])

    def test_hired_is_5_then(self):
        before = [kind(3, 9), *[costume(0, 5)] * 4, *[need(0, 0, 5)] * 6]
        self.assertEqual(all_told(*before, BEST, more(0, 5), more(0, 6))[-3:],
                         [[18, 360, 0, 1, 2, 3, 4, 4], [9, 720, 0, 1, 2, 3, 4, 5], [0, 360, 0, 1, 2, 3, 5, 5]])

    def test_it_is_4_for_the_row_that_wears_the_new_one(self):
        before = [kind(3, 9), *[costume(0, 5)] * 4, need(0, 0, 8), need(1, 0, 5)]
        self.assertEqual(last_told(*before, more(0, 8)), [9, 4, 4, 0])

    def test_check_knows_four_still(self):
        self.assertEqual(all_told(*FOUR_COSTUMES, more(0, 5), check(4, 4, 4, 4, 4, 4), check(0, 1, 2, 3, 5, 5))[-2:],
                         [[54], [-1]])


class Refused(unittest.TestCase):
    def test_no_such_kind(self):
        self.assertEqual(all_told(more(0), more(1), more(LARGEST)), [[-2], [-2], [-2]])
        for many in (1, 2, 3, 4):
            with self.subTest(kinds=many):
                self.assertEqual(all_told(*[kind()] * many, more(many - 1), more(many), more(LARGEST))[many:],
                                 [[0, 1], [-2], [-2]])

    def test_each_number(self):
        for number, told in ((0, [0, 1]), (1, [0, 1]), (1000, [0, 1]), (1001, [-1]), (LARGEST, [-1])):
            with self.subTest(number=number):
                self.assertEqual(last_told(kind(), more(0, number, 7)), told)
                self.assertEqual(last_told(kind(), more(0, 7, number)), told)

    def test_no_such_kind_ahead_of_a_number_that_is_not_as_told(self):
        sizes = (1000, 1001, LARGEST)
        for many, number, size, give in itertools.product((0, 3, 4), (0, 1, LARGEST), sizes, sizes):
            told = [-2] if number > 0 else [-1] if size > 1000 or give > 1000 else [0, 1]
            with self.subTest(costumes=many, kind=number, size=size, give=give):
                self.assertEqual(last_told(kind(), *[costume()] * many, more(number, size, give)), told)


class NothingIsChanged(unittest.TestCase):
    def test_all_answers_as_if_it_had_not_been(self):
        before = [kind(2, 9), kind(0, 5), costume(0, 3, 1), need(0, 0, 2), need(1, 1, 2), need(3, 0, 5)]
        asked = [BEST, PLAIN, check(0, 1, 1), check(0, 1, 0), check(1, 1, 2), costume(0, 5, 3), BEST, PLAIN,
                 check(1, 2, 1), check(2, 2, 3), more(1, 2, 2), kind(), need(3, 2), need(2)]
        first = all_told(*before, *asked)[6:]
        for asked_before in (more(0, 5, 3), more(1, 2, 2), more(0, 1000, 0), more(2), more(0, 1001), more(0, 0, 1001)):
            with self.subTest(more=asked_before):
                self.assertEqual(all_told(*before, asked_before, asked_before, *asked)[8:], first)

    def test_the_next_number_is_the_same(self):
        self.assertEqual(all_told(kind(), more(), costume(), more(), more(), costume(), more(), costume(), costume(),
                                  more(), costume(), more()),
                         [[0], [0, 1], [0], [0, 1], [0, 1], [1], [0, 1], [2], [3], [0, 1], [-5], [0, 1]])

    def test_told_then_it_is_as_more_said(self):
        before = [kind(1, 70), costume(0, 50, 10), need(3, 0, 45), need(4, 0, 55)]
        found = all_told(*before, BEST, more(0, 44, 2), costume(0, 44, 2), BEST)
        self.assertEqual(found[4:], [[70, 2, 0, 1], [70, 1, 1, 0], [1], [0, 1, 1, 0]])


if __name__ == "__main__":
    unittest.main()
