"""plain: the row one by one, and what it costs."""
import itertools
import unittest

from line import BEST, PLAIN, all_told, check, costume, kind, last_told, need


class OneByOne(unittest.TestCase):
    def test_no_needs(self):
        self.assertEqual(last_told(PLAIN), [0])
        self.assertEqual(last_told(kind(0, 9), costume(), costume(), PLAIN), [0])

    def test_no_costumes(self):
        self.assertEqual(last_told(kind(0, 9), kind(0, 50), need(), need(0, 1), need(), PLAIN), [68, 0, 0, 0])

    def test_the_lowest_number_that_suits(self):
        before = [kind(0, 9), kind(0, 9), costume(1, 5, 9), costume(0, 9, 1), costume(0, 5, 1), costume(0, 5, 9)]
        self.assertEqual(last_told(*before, need(0, 0, 5), PLAIN), [0, 2])
        self.assertEqual(last_told(*before, need(0, 0, 9), PLAIN), [0, 1])
        self.assertEqual(last_told(*before, need(0, 0, 14), PLAIN), [0, 3])
        self.assertEqual(last_told(*before, need(0, 1, 14), PLAIN), [0, 0])

    def test_the_lowest_number_that_is_back(self):
        before = [kind(2, 9), *[costume()] * 4]
        self.assertEqual(last_told(*before, *[need(night) for night in range(6)], PLAIN), [0, 0, 1, 2, 0, 1, 2])
        self.assertEqual(last_told(*before, *[need(night) for night in (0, 0, 2, 3, 5, 6)], PLAIN),
                         [0, 0, 1, 2, 0, 1, 0])

    def test_hired_where_there_is_none(self):
        before = [kind(2, 9), costume(0, 5, 1), costume(0, 5, 1)]
        self.assertEqual(last_told(*before, need(0, 0, 7), PLAIN), [9, 2])
        self.assertEqual(last_told(*before, *[need(night, 0, 5) for night in (0, 1, 2, 3, 3, 5)], PLAIN),
                         [18, 0, 1, 2, 0, 2, 1])

    def test_a_costume_that_costs_nothing_hired_is_worn_all_the_same(self):
        self.assertEqual(last_told(kind(0, 0), costume(), need(0), need(0), need(1), PLAIN), [0, 0, 1, 0])

    def test_paid_by_the_kind_of_the_need(self):
        before = [kind(1, 3), kind(2, 40), costume(1), need(0, 0), need(0, 1), need(1, 0), need(2, 1), need(3, 1)]
        self.assertEqual(last_told(*before, PLAIN), [46, 1, 0, 1, 1, 0])


class BesideBest(unittest.TestCase):
    def test_it_may_cost_more(self):
        # The wide gown goes to the first, whom the narrow one suits too, and is missing for the second.
        before = [kind(4, 100000), costume(0, 50, 10), costume(0, 44, 2), need(3, 0, 45), need(7, 0, 55)]
        self.assertEqual(all_told(*before, PLAIN, BEST, check(0, 2))[-3:], [[100000, 0, 2], [0, 1, 1, 0], [100000]])

    def test_it_costs_as_much_where_the_narrow_one_comes_first(self):
        before = [kind(4, 100000), costume(0, 44, 2), costume(0, 50, 10), need(3, 0, 45), need(7, 0, 55)]
        self.assertEqual(all_told(*before, PLAIN, BEST)[-2:], [[0, 0, 1], [0, 1, 0, 1]])

    def test_as_good_as_any_where_every_costume_suits_everybody(self):
        kinds = [kind(0, 7), kind(2, 50)]
        for steps in itertools.product((0, 1, 3), repeat=5):
            nights = [0, *itertools.accumulate(steps)]
            needs = [need(night, number % 3 % 2, 100 * number) for number, night in enumerate(nights)]
            found = all_told(*kinds, costume(0, 500, 500), costume(1, 500, 500), costume(1, 400, 600), *needs,
                             PLAIN, BEST)
            with self.subTest(nights=nights):
                self.assertEqual(found[-2][0], found[-1][0])

    def test_it_leaves_all_as_it_was(self):
        before = [kind(2, 9), costume(), costume(), need(0), need(1), need(2)]
        asked = [PLAIN, BEST, check(0, 1, 2), check(0, 0, 0)]
        self.assertEqual(all_told(*before, PLAIN, PLAIN, *asked)[-4:], all_told(*before, *asked)[-4:])
        self.assertEqual(all_told(*before, PLAIN, costume(), need(3), kind())[-3:], [[2], [3], [1]])


if __name__ == "__main__":
    unittest.main()
