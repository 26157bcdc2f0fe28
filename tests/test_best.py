"""best: what the best row costs, how many rows cost as little, and the earliest of those."""
import unittest

from line import BEST, PLAIN, all_told, check, costume, kind, last_told, more, need

# The wide gown (costume 0) suits both wearers, the narrow one (costume 1) the first alone.
WIDE_FIRST = [kind(1, 70), costume(0, 50, 10), costume(0, 44, 2), need(3, 0, 45), need(4, 0, 55)]


class WithLittle(unittest.TestCase):
    def test_nothing_at_all(self):
        self.assertEqual(last_told(BEST), [0, 1])

    def test_kinds_alone(self):
        self.assertEqual(last_told(kind(3, 9), kind(), BEST), [0, 1])

    def test_costumes_and_no_needs(self):
        self.assertEqual(last_told(kind(0, 9), *[costume(0, 5, 5)] * 4, BEST), [0, 1])

    def test_needs_and_no_costumes(self):
        self.assertEqual(last_told(kind(0, 9), need(2), BEST), [9, 1, 0])
        self.assertEqual(last_told(kind(0, 9), kind(0, 400), need(2), need(2, 1), need(3), BEST), [418, 1, 0, 0, 0])

    def test_needs_and_no_costumes_where_hiring_costs_nothing(self):
        self.assertEqual(last_told(kind(), *[need()] * 6, BEST), [0, 1, 0, 0, 0, 0, 0, 0])

    def test_one_costume_and_one_need(self):
        self.assertEqual(last_told(kind(0, 9), costume(0, 5), need(2, 0, 5), BEST), [0, 1, 0])
        self.assertEqual(last_told(kind(0, 9), costume(0, 5), need(2, 0, 6), BEST), [9, 1, 1])

    def test_the_most_that_can_be_paid(self):
        self.assertEqual(last_told(kind(10, 100000), *[need(1000, 0, 1000)] * 6, BEST), [600000, 1] + [0] * 6)
        self.assertEqual(last_told(kind(10, 100000), *[costume(0, 0, 999)] * 4, *[need(1000, 0, 1000)] * 6, BEST),
                         [600000, 1] + [4] * 6)


class WhatItCosts(unittest.TestCase):
    def test_hired_is_paid_by_the_kind_of_the_need(self):
        kinds = [kind(0, 1), kind(0, 20), kind(0, 300), kind(0, 4000)]
        for number, hire in enumerate((1, 20, 300, 4000)):
            with self.subTest(kind=number):
                self.assertEqual(last_told(*kinds, need(0, number), BEST), [hire, 1, 0])
        self.assertEqual(last_told(*kinds, need(0, 3), need(0, 1), need(0, 3), BEST), [8020, 1, 0, 0, 0])

    def test_only_what_is_hired_is_paid(self):
        self.assertEqual(last_told(kind(0, 5), kind(0, 60), costume(1, 7), need(0, 0, 7), need(0, 1, 7), BEST),
                         [5, 1, 1, 0])

    def test_worn_twice_and_hired_once(self):
        # Worn on the middle night it would be away on the last one.
        calls = [kind(1, 8), costume(0, 5, 5), need(0), need(1), need(2)]
        self.assertEqual(last_told(*calls, BEST), [8, 1, 0, 1, 0])

    def test_taking_the_first_that_is_back_costs_more(self):
        self.assertEqual(all_told(*WIDE_FIRST, PLAIN, BEST)[-2:], [[70, 0, 2], [0, 1, 1, 0]])

    def test_hiring_first_may_cost_as_little(self):
        # Worn for needs 0 and 2, for 0 and 3, or for 1 and 3.
        calls = [kind(3, 10), costume(0, 5, 5), need(0), need(3), need(4), need(7)]
        self.assertEqual(all_told(*calls, PLAIN, BEST)[-2:], [[20, 0, 1, 0, 1], [20, 3, 0, 1, 0, 1]])


class Ties(unittest.TestCase):
    def test_either_costume_for_one_need(self):
        self.assertEqual(last_told(kind(0, 9), costume(), costume(), need(), BEST), [0, 2, 0])

    def test_the_earliest_need_not_have_the_lowest_costume(self):
        self.assertEqual(last_told(kind(0, 9), kind(0, 9), costume(1), costume(0), costume(0), need(), BEST), [0, 2, 1])

    def test_both_ways_round(self):
        self.assertEqual(last_told(kind(0, 9), costume(), costume(), need(), need(), BEST), [0, 2, 0, 1])

    def test_three_costumes_on_one_night(self):
        self.assertEqual(last_told(kind(0, 9), *[costume()] * 3, need(), need(), BEST), [0, 6, 0, 1])
        self.assertEqual(last_told(kind(0, 9), *[costume()] * 3, *[need()] * 3, BEST), [0, 6, 0, 1, 2])
        self.assertEqual(last_told(kind(0, 9), *[costume()] * 3, *[need()] * 4, BEST), [9, 24, 0, 1, 2, 3])

    def test_who_is_hired_for_is_told_by_the_first_need_that_differs(self):
        self.assertEqual(last_told(kind(0, 9), costume(), need(), need(), BEST), [9, 2, 0, 1])
        self.assertEqual(last_told(kind(0, 9), costume(), *[need()] * 6, BEST), [45, 6, 0, 1, 1, 1, 1, 1])

    def test_the_first_need_that_differs_not_the_sum_or_the_last(self):
        # The three rows are 0 2 1, 1 0 2 and 2 0 1.
        calls = [kind(1, 5), costume(0, 50, 10), costume(0, 40, 10), need(0, 0, 45), need(1, 0, 60), need(1, 0, 30)]
        self.assertEqual(last_told(*calls, BEST), [5, 3, 0, 2, 1])

    def test_rows_that_cost_more_are_not_counted(self):
        # Each costume is worn once, for either need of its kind; to wear one of them not at all costs more.
        calls = [kind(2, 10), kind(2, 11), costume(0), costume(1), need(0), need(1), need(1, 1), need(2, 1)]
        self.assertEqual(last_told(*calls, BEST), [21, 4, 0, 2, 1, 2])


class HiredForNothing(unittest.TestCase):
    def test_hiring_is_counted_too(self):
        self.assertEqual(last_told(kind(), costume(), need(), BEST), [0, 2, 0])
        self.assertEqual(last_told(kind(), costume(), costume(), need(0), need(1), BEST), [0, 9, 0, 0])
        self.assertEqual(last_told(kind(), costume(), costume(), need(0), need(0), BEST), [0, 7, 0, 1])

    def test_only_of_the_kind_that_costs_nothing(self):
        calls = [kind(0, 0), kind(0, 1), costume(0), costume(1), need(0, 0), need(0, 1)]
        self.assertEqual(last_told(*calls, BEST), [0, 2, 0, 1])

    def test_nothing_suits(self):
        self.assertEqual(last_told(kind(), costume(0, 1), need(0, 0, 3), need(1, 0, 3), BEST), [0, 1, 1, 1])

    def test_the_earliest_wears_where_it_can(self):
        self.assertEqual(last_told(kind(5), costume(), need(0), need(5), need(6), BEST), [0, 5, 0, 1, 0])


class TheLargest(unittest.TestCase):
    def test_four_kinds_four_costumes_six_needs_and_eight_calls(self):
        for hire, now, then in ((0, 15625, 46656), (9, 4096, 15625)):
            calls = [kind(0, hire), kind(10, 1), kind(10, 2), kind(10, 3)] + [costume(0, 500, 1000)] * 4
            calls += [need(night) for night in range(6)]
            asked = [BEST, more(0, 0, 1000)] * 4
            with self.subTest(hire=hire):
                self.assertEqual(all_told(*calls, *asked)[14:], [[0, now] + [0] * 6, [0, then] + [0] * 6] * 4)

    def test_six_on_one_night(self):
        calls = [kind(10, 7)] * 4 + [costume(0, 500, 500)] * 4 + [need(1000)] * 6
        # 6 * 5 * 4 * 3 ways to hand four costumes out, 6 * 5 * 4 * 3 * 2 to hand out five.
        self.assertEqual(all_told(*calls, *[BEST, more(0, 500, 500)] * 4)[14:],
                         [[14, 360, 0, 1, 2, 3, 4, 4], [7, 720, 0, 1, 2, 3, 4, 5]] * 4)

    def test_a_kind_for_each_costume(self):
        calls = [kind(0, 1), kind(1, 20), kind(2, 300), kind(3, 4000)] + [costume(number) for number in range(4)]
        calls += [need(0, 3), need(1, 2), need(2, 1), need(3, 1), need(3, 0), need(3, 3)]
        self.assertEqual(all_told(*calls, BEST, check(3, 2, 1, 4, 0, 4), check(4, 2, 4, 1, 0, 3))[14:],
                         [[4020, 4, 3, 2, 1, 4, 0, 4], [4020], [4020]])


if __name__ == "__main__":
    unittest.main()
