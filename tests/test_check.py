"""check: what a row costs, why it can't be, and what is refused (point 2)."""
import itertools
import unittest

from line import BEGINS, BEST, LARGEST, PLAIN, all_told, check, costume, kind, last_told, need

# Hired is 2 here. Costume 0 suits all needs, costume 1 those of size 45; both are away for one night.
TWO_GOWNS = [kind(1, 70), costume(0, 50, 10), costume(0, 44, 2), need(3, 0, 45), need(4, 0, 55), need(5, 0, 45)]
SIX_NEEDS = [kind(0, 1), costume(0, 5, 5), *[need(night) for night in range(6)]]


class Refused(unittest.TestCase):
    def test_too_few_or_too_many_numbers(self):
        for many in (0, 1, 2, 4, 5, 6, 7, 8):
            for number in (0, 2, 3, LARGEST):
                with self.subTest(many=many, number=number):
                    self.assertEqual(last_told(*TWO_GOWNS, check(*[number] * many)), [-1])
        self.assertEqual(last_told(*TWO_GOWNS, check(2, 2, 2)), [210])

    def test_around_the_largest_row(self):
        for many in (0, 1, 5, 7, 8):
            with self.subTest(many=many):
                self.assertEqual(last_told(*SIX_NEEDS, check(*[1] * many)), [-1])
        self.assertEqual(last_told(*SIX_NEEDS, check(*[1] * 6)), [6])

    def test_no_needs(self):
        for before in ([BEGINS], [kind()], [kind(), costume()]):
            with self.subTest(before=before):
                self.assertEqual(last_told(*before, check()), [0])
                for many in range(1, 9):
                    self.assertEqual(last_told(*before, check(*[0] * many)), [-1])

    def test_an_empty_row_with_needs(self):
        self.assertEqual(last_told(kind(), need(), check()), [-1])

    def test_a_number_above_hired(self):
        for place in range(3):
            for number, told in ((2, 210), (3, -1), (4, -1), (5, -1), (8, -1), (LARGEST, -1)):
                row = [2, 2, 2]
                row[place] = number
                with self.subTest(row=row):
                    self.assertEqual(last_told(*TWO_GOWNS, check(*row)), [told])

    def test_hired_is_the_number_of_costumes(self):
        for many in range(5):
            before = [kind(0, 9), *[costume(0, 5)] * many, need(0, 0, 6)]
            with self.subTest(costumes=many):
                self.assertEqual(all_told(*before, check(many), check(many + 1), check(LARGEST))[-3:],
                                 [[9], [-1], [-1]])
                for number in range(many):
                    self.assertEqual(last_told(*before, check(number)), [-6, 0, 0])

    def test_refused_ahead_of_what_cannot_be(self):
        # Costume 1 doesn't suit need 1, and costume 0 isn't back for it.
        for row in ((0, 1, 3), (0, 0, LARGEST), (3, 1, 1), (0, 1), (0, 0), (0, 0, 2, 2), (0, 1, 2, 2, 2, 2, 2, 2)):
            with self.subTest(row=row):
                self.assertEqual(last_told(*TWO_GOWNS, check(*row)), [-1])

    def test_the_call_behind_it_is_found(self):
        for row in ((), (0,), (4, 4), (7, 0, 0), (0, 4, 6, 4), (0,) * 8, (8,) * 8):
            with self.subTest(row=row):
                found = all_told(*TWO_GOWNS, check(*row), PLAIN, check(*row), BEST)
                self.assertEqual(len(found), 10)
                self.assertEqual([found[7], found[9]], [[70, 0, 2, 0], [0, 1, 1, 0, 1]])


class WhatItCosts(unittest.TestCase):
    def test_rows_that_can_be(self):
        costs = {(0, 2, 0): 70, (1, 0, 1): 0, (1, 2, 1): 70, (1, 2, 0): 70, (0, 2, 1): 70, (2, 0, 1): 70,
                 (1, 0, 2): 70, (2, 2, 0): 140, (2, 0, 2): 140, (0, 2, 2): 140, (2, 2, 2): 210}
        for row, told in costs.items():
            with self.subTest(row=row):
                self.assertEqual(last_told(*TWO_GOWNS, check(*row)), [told])

    def test_paid_by_the_kind_of_the_need(self):
        before = [kind(0, 1), kind(0, 20), kind(0, 300), kind(0, 4000), need(0, 2), need(0, 0), need(1, 3), need(1, 2)]
        self.assertEqual(last_told(*before, check(0, 0, 0, 0)), [4601])
        before += [costume(2, 0, 9)]
        self.assertEqual(all_told(*before, check(0, 1, 1, 1), check(0, 1, 1, 0), check(1, 1, 1, 1))[-3:],
                         [[4301], [4001], [4601]])

    def test_the_most(self):
        before = [kind(10, 100000), *[need(1000, 0, 1000)] * 6]
        self.assertEqual(last_told(*before, check(*[0] * 6)), [600000])

    def test_every_row_counted_is_as_best_tells(self):
        found = [last_told(*TWO_GOWNS, check(*row)) for row in itertools.product(range(3), repeat=3)]
        can_be = [told[0] for told in found if len(told) == 1]
        least, many = last_told(*TWO_GOWNS, BEST)[:2]
        self.assertEqual((min(can_be), can_be.count(min(can_be))), (least, many))


class CannotBe(unittest.TestCase):
    def test_does_not_suit(self):
        self.assertEqual(last_told(*TWO_GOWNS, check(2, 1, 2)), [-6, 1, 1])
        for place in range(6):
            row = [1] * 6
            row[place] = 0
            with self.subTest(place=place):
                before = [kind(0, 9), costume(0, 5), *[need(0, 0, 6)] * 6]
                self.assertEqual(last_told(*before, check(*row)), [-6, place, place])

    def test_is_not_back(self):
        self.assertEqual(last_told(*TWO_GOWNS, check(0, 0, 2)), [-6, 1, 0])
        self.assertEqual(last_told(*TWO_GOWNS, check(1, 0, 0)), [-6, 2, 1])

    def test_every_two_needs(self):
        for first, second in itertools.combinations(range(6), 2):
            row = [1] * 6
            row[first] = row[second] = 0
            with self.subTest(row=row):
                before = [kind(10, 9), costume(0, 5, 5), *[need(night) for night in range(6)]]
                self.assertEqual(last_told(*before, check(*row)), [-6, second, first])

    def test_the_first_earlier_need_of_several(self):
        # For night 7 the costume is back from need 0, and not from need 1. It's never more than one from which it
        # isn't back: of two such needs the second would be told itself.
        before = [kind(3, 9), costume(0, 5, 5), need(0), need(4), need(5), need(7)]
        self.assertEqual(last_told(*before, check(0, 0, 1, 0)), [-6, 3, 1])
        self.assertEqual(last_told(*before, check(0, 0, 0, 0)), [-6, 2, 1])
        # Both costumes are back from night 0, and neither from the nights 4 and 5.
        before = [kind(3, 9), costume(), costume(), need(0), need(0), need(4), need(5), need(6)]
        self.assertEqual(all_told(*before, check(0, 1, 0, 1, 0), check(0, 1, 0, 1, 1), check(0, 1, 0, 1, 2))[-3:],
                         [[-6, 4, 2], [-6, 4, 3], [9]])
        # From night 0 it's back for the two last ones, from night 11 for the very last alone.
        before = [kind(10, 9), costume(), need(0), need(11), need(21), need(22)]
        self.assertEqual(all_told(*before, check(0, 0, 0, 1), check(0, 0, 1, 0))[-2:], [[-6, 2, 1], [9]])

    def test_earlier_needs_with_another_costume_or_hired_are_not_told(self):
        before = [kind(9, 9), *[costume()] * 3, *[need(night) for night in range(5)]]
        self.assertEqual(all_told(*before, check(1, 3, 0, 2, 0), check(3, 3, 3, 3, 3), check(1, 0, 3, 2, 1))[-3:],
                         [[-6, 4, 2], [45], [-6, 4, 0]])

    def test_of_another_kind_it_does_not_suit(self):
        before = [kind(0, 9), kind(0, 9), costume(0), costume(1), need(0, 0), need(1, 1)]
        self.assertEqual(all_told(*before, check(1, 0), check(0, 0), check(1, 1), check(0, 1))[-4:],
                         [[-6, 0, 0], [-6, 1, 1], [-6, 0, 0], [0]])

    def test_neither_suits_nor_is_back(self):
        self.assertEqual(last_told(*TWO_GOWNS, check(1, 1, 1)), [-6, 1, 1])
        before = [kind(9, 9), kind(9, 9), costume(0), need(0, 0), need(0, 1)]
        self.assertEqual(last_told(*before, check(0, 0)), [-6, 1, 1])

    def test_of_two_wrong_needs_the_first(self):
        # Not back for need 1 and not suiting need 2; not suiting need 1 and not back for need 2.
        before = [kind(5, 9), costume(0, 5), costume(0, 7), need(0, 0, 5), need(0, 0, 5), need(0, 0, 7), need(1, 0, 7)]
        self.assertEqual(all_told(*before, check(0, 0, 0, 2), check(0, 1, 1, 1), check(0, 2, 1, 1),
                                  check(1, 0, 0, 0))[-4:], [[-6, 1, 0], [-6, 1, 1], [-6, 3, 2], [-6, 0, 0]])

    def test_it_leaves_all_as_it_was(self):
        asked = [PLAIN, BEST, check(1, 0, 1), check(2, 2, 2)]
        first = all_told(*TWO_GOWNS, *asked)[6:]
        for row in ((0, 0, 0), (1, 1, 1), (0, 0), (3, 3, 3), ()):
            with self.subTest(row=row):
                self.assertEqual(all_told(*TWO_GOWNS, check(*row), *asked)[7:], first)


if __name__ == "__main__":
    unittest.main()
