"""What suits and what is back, as best, check and plain tell it."""
import unittest

from line import BEST, PLAIN, all_told, check, costume, kind, need


class Suits(unittest.TestCase):
    def held(self, calls, suiting):
        """calls: a wardrobe of one need and of costume 0, hired for 9."""
        told = [[0, 1, 0], [0, 0], [0], [9]] if suiting else [[9, 1, 1], [9, 1], [-6, 0, 0], [9]]
        self.assertEqual(all_told(*calls, BEST, PLAIN, check(0), check(1))[len(calls):], told)

    def sized(self, size, give, wearer, suiting):
        with self.subTest(size=size, give=give, wearer=wearer):
            self.held([kind(0, 9), costume(0, size, give), need(0, 0, wearer)], suiting)

    def test_off_by_just_the_give_and_by_one_more(self):
        for give in (0, 1, 7, 300):
            self.sized(500, give, 500, True)
            self.sized(500, give, 500 + give, True)
            self.sized(500, give, 500 - give, True)
            self.sized(500, give, 500 + give + 1, False)
            self.sized(500, give, 500 - give - 1, False)

    def test_far_off(self):
        self.sized(0, 0, 1000, False)
        self.sized(1000, 0, 0, False)

    def test_at_the_ends(self):
        self.sized(0, 1000, 1000, True)
        self.sized(1000, 1000, 0, True)
        self.sized(0, 999, 1000, False)
        self.sized(1000, 999, 0, False)
        self.sized(0, 0, 0, True)
        self.sized(1000, 0, 1000, True)

    def test_the_give_is_the_costumes_own(self):
        calls = [kind(0, 9), costume(0, 500, 5), costume(0, 500, 6), need(0, 0, 506)]
        self.assertEqual(all_told(*calls, BEST, PLAIN, check(0), check(1))[4:], [[0, 1, 1], [0, 1], [-6, 0, 0], [0]])

    def test_another_kind(self):
        for wanted, there in ((0, 1), (1, 0)):
            with self.subTest(wanted=wanted):
                self.held([kind(0, 9), kind(0, 9), costume(there, 500, 1000), need(0, wanted, 500)], False)
                self.held([kind(0, 9), kind(0, 9), costume(wanted, 500, 1000), need(0, wanted, 500)], True)

    def test_two_kinds_told_alike_are_two(self):
        calls = [kind(3, 9), kind(3, 9), costume(0, 5, 5), costume(1, 5, 5), need(0, 1, 5), need(0, 0, 5)]
        self.assertEqual(all_told(*calls, BEST, PLAIN, check(0, 1))[6:], [[0, 1, 1, 0], [0, 1, 0], [-6, 0, 0]])


class Back(unittest.TestCase):
    def held(self, calls, back):
        """calls: a wardrobe of costume 0 and two needs that it suits, hired for 9."""
        told = [[0, 1, 0, 0], [0, 0, 0], [0]] if back else [[9, 2, 0, 1], [9, 0, 1], [-6, 1, 0]]
        self.assertEqual(all_told(*calls, BEST, PLAIN, check(0, 0))[len(calls):], told)

    def nights(self, away, first, second, back):
        with self.subTest(away=away, first=first, second=second):
            self.held([kind(away, 9), costume(), need(first), need(second)], back)

    def test_just_as_many_nights_and_one_more(self):
        for away in range(11):
            for first in (0, 5, 989):
                self.nights(away, first, first, False)
                self.nights(away, first, first + away, False)
                self.nights(away, first, first + away + 1, True)

    def test_away_0(self):
        self.nights(0, 7, 7, False)
        self.nights(0, 7, 8, True)

    def test_away_10(self):
        self.nights(10, 0, 1, False)
        self.nights(10, 0, 9, False)
        self.nights(10, 0, 10, False)
        self.nights(10, 0, 11, True)
        self.nights(10, 0, 1000, True)

    def test_each_kind_is_away_as_told_of_it(self):
        for number, away in ((0, 2), (1, 0), (2, 4)):
            kinds = [kind(2, 9), kind(0, 9), kind(4, 9)]
            with self.subTest(kind=number):
                self.held([*kinds, costume(number), need(5, number), need(5 + away, number)], False)
                self.held([*kinds, costume(number), need(5, number), need(6 + away, number)], True)

    def test_another_costume_worn_in_between_does_not_matter(self):
        calls = [kind(2, 9), costume(), costume(), need(0), need(1), need(3), need(4)]
        self.assertEqual(all_told(*calls, BEST, PLAIN, check(0, 1, 0, 1))[7:],
                         [[0, 2, 0, 1, 0, 1], [0, 0, 1, 0, 1], [0]])

    def test_hired_is_never_away(self):
        calls = [kind(10, 9), costume(0, 1), need(0, 0, 2), need(0, 0, 2), need(1, 0, 2)]
        self.assertEqual(all_told(*calls, BEST, PLAIN, check(1, 1, 1))[5:], [[27, 1, 1, 1, 1], [27, 1, 1, 1], [27]])


class BackFromEach(unittest.TestCase):
    """Three needs with the same costume. Nights are in order: what isn't back from the first isn't from the second."""

    def held(self, nights, row, told):
        with self.subTest(nights=nights, row=row):
            calls = [kind(3, 9), costume(0, 5, 5), *[need(night) for night in nights]]
            self.assertEqual(all_told(*calls, check(*row))[-1], told)

    def test_back_from_both(self):
        self.held((0, 4, 8), (0, 0, 0), [0])

    def test_back_from_the_first_and_not_from_the_second(self):
        self.held((0, 4, 7), (0, 0, 0), [-6, 2, 1])
        self.held((0, 4, 4), (0, 0, 0), [-6, 2, 1])

    def test_back_from_neither(self):
        # The second is told first, as it isn't back for that one already; hired there, the first is what's told.
        self.held((0, 2, 3), (0, 0, 0), [-6, 1, 0])
        self.held((0, 2, 3), (0, 1, 0), [-6, 2, 0])
        self.held((0, 2, 3), (1, 0, 0), [-6, 2, 1])

    def test_the_first_is_not_forgotten_where_the_second_is_hired(self):
        self.held((0, 2, 3), (0, 1, 0), [-6, 2, 0])
        self.held((0, 2, 4), (0, 1, 0), [9])

    def test_best_and_plain_hold_to_it(self):
        calls = [kind(3, 9), costume(0, 5, 5), need(0), need(4), need(7)]
        self.assertEqual(all_told(*calls, BEST, PLAIN)[5:], [[9, 2, 0, 0, 1], [9, 0, 0, 1]])
        calls = [kind(3, 9), costume(0, 5, 5), need(0), need(2), need(3)]
        self.assertEqual(all_told(*calls, BEST, PLAIN)[5:], [[18, 3, 0, 1, 1], [18, 0, 1, 1]])


if __name__ == "__main__":
    unittest.main()
