"""Point 1: what kind, costume and need refuse, with which number, and that all is as it was then."""
import itertools
import unittest

from line import BEGINS, LARGEST, ask, costume, kind, need

FOUR_KINDS = [kind()] * 4
FULL_OF_COSTUMES = [kind()] + [costume()] * 4
FULL_OF_NEEDS = [kind()] + [need(5)] * 6


def last(*calls):
    return ask(*calls)[-1]


class Edges(unittest.TestCase):
    """Each number apart, the others as told: 0, the last as told, the first that isn't, and the largest."""

    def held(self, most, call_with):
        for number, told in ((0, 0), (1, 0), (most, 0), (most + 1, -1), (LARGEST, -1)):
            with self.subTest(number=number):
                self.assertEqual(last(kind(), BEGINS, *call_with(number)), told)

    def test_nights_away(self):
        self.held(10, lambda number: [kind(number, 7)])

    def test_hire(self):
        self.held(100000, lambda number: [kind(7, number)])

    def test_size_of_a_costume(self):
        self.held(1000, lambda number: [kind(), costume(0, number, 7)])

    def test_give(self):
        self.held(1000, lambda number: [kind(), costume(0, 7, number)])

    def test_night(self):
        self.held(1000, lambda number: [kind(), need(number, 0, 7)])

    def test_size_of_a_need(self):
        self.held(1000, lambda number: [kind(), need(7, 0, number)])

    def test_all_at_their_last(self):
        self.assertEqual(ask(kind(10, 100000), costume(0, 1000, 1000), need(1000, 0, 1000)), [0, 0, 0])

    def test_all_too_large(self):
        self.assertEqual(ask(kind(11, 100001), kind(LARGEST, LARGEST)), [-1, -1])
        self.assertEqual(ask(kind(), costume(0, 1001, 1001), costume(0, LARGEST, LARGEST)), [0, -1, -1])
        self.assertEqual(ask(kind(), need(1001, 0, 1001), need(LARGEST, 0, LARGEST)), [0, -1, -1])


class Nights(unittest.TestCase):
    def test_the_same_night(self):
        self.assertEqual(ask(kind(), need(5), need(5)), [0, 0, 1])

    def test_a_night_later(self):
        self.assertEqual(ask(kind(), need(5), need(6)), [0, 0, 1])

    def test_a_night_before(self):
        self.assertEqual(ask(kind(), need(5), need(4)), [0, 0, -1])

    def test_held_against_the_need_before_not_the_first(self):
        self.assertEqual(ask(kind(), need(5), need(8), need(7), need(8)), [0, 0, 1, -1, 2])

    def test_held_against_a_need_of_another_kind(self):
        self.assertEqual(ask(kind(), kind(), need(5, 0), need(4, 1), need(5, 1)), [0, 1, 0, -1, 1])

    def test_at_both_ends(self):
        self.assertEqual(ask(kind(), need(0), need(0), need(1000), need(1000), need(999), need(0)),
                         [0, 0, 1, 2, 3, -1, -1])


class HowMany(unittest.TestCase):
    def test_the_fourth_and_the_fifth_kind(self):
        self.assertEqual(ask(*[kind(1, 2)] * 5), [0, 1, 2, 3, -5])

    def test_the_fourth_and_the_fifth_costume(self):
        self.assertEqual(ask(kind(), *[costume(0, 1, 2)] * 5), [0, 0, 1, 2, 3, -5])

    def test_the_sixth_and_the_seventh_need(self):
        self.assertEqual(ask(kind(), *[need(night) for night in range(7)]), [0, 0, 1, 2, 3, 4, 5, -5])

    def test_costumes_and_needs_of_all_kinds_count_together(self):
        self.assertEqual(ask(*FOUR_KINDS, costume(0), costume(1), costume(2), costume(3), costume(1))[4:],
                         [0, 1, 2, 3, -5])
        self.assertEqual(ask(*FOUR_KINDS, *[need(0, number % 4) for number in range(7)])[4:],
                         [0, 1, 2, 3, 4, 5, -5])


class NoSuchKind(unittest.TestCase):
    def test_with_no_kinds_at_all(self):
        for number in (0, 1, 3, 4, LARGEST):
            with self.subTest(kind=number):
                self.assertEqual(ask(costume(number), need(0, number)), [-2, -2])

    def test_the_first_that_there_is_not(self):
        for many in (1, 2, 3, 4):
            with self.subTest(kinds=many):
                told = ask(*[kind()] * many, costume(many - 1), costume(many), need(0, many - 1), need(0, many))
                self.assertEqual(told[many:], [0, -2, 0, -2])

    def test_the_largest(self):
        self.assertEqual(ask(*FOUR_KINDS, costume(LARGEST), need(0, LARGEST))[4:], [-2, -2])

    def test_a_refused_kind_is_not_there(self):
        self.assertEqual(ask(kind(11, 0), costume(0), need(0, 0)), [-1, -2, -2])
        self.assertEqual(ask(*FOUR_KINDS, kind(), costume(4), need(0, 4))[4:], [-5, -2, -2])


class SeveralReasons(unittest.TestCase):
    """Every set of reasons at once: the one that point 1 tells first is answered."""

    def test_kind(self):
        for full, away, hire in itertools.product((False, True), (10, 11, LARGEST), (100000, 100001, LARGEST)):
            told = -1 if away > 10 or hire > 100000 else -5 if full else 0
            with self.subTest(full=full, away=away, hire=hire):
                before = FOUR_KINDS if full else [BEGINS]
                self.assertEqual(last(*before, kind(away, hire)), told)

    def test_costume(self):
        sizes = (1000, 1001, LARGEST)
        for full, number, size, give in itertools.product((False, True), (0, 1, LARGEST), sizes, sizes):
            told = -2 if number > 0 else -1 if size > 1000 or give > 1000 else -5 if full else 0
            with self.subTest(full=full, kind=number, size=size, give=give):
                before = FULL_OF_COSTUMES if full else [kind()]
                self.assertEqual(last(*before, costume(number, size, give)), told)

    def test_need(self):
        nights = (4, 5, 6, 1000, 1001, LARGEST)
        sizes = (1000, 1001, LARGEST)
        for full, night, number, size in itertools.product((False, True), nights, (0, 1, LARGEST), sizes):
            told = -2 if number > 0 else -1 if not 5 <= night <= 1000 or size > 1000 else -5 if full else 1
            with self.subTest(full=full, night=night, kind=number, size=size):
                before = FULL_OF_NEEDS if full else [kind(), need(5)]
                self.assertEqual(last(*before, need(night, number, size)), told)


class AllIsAsItWas(unittest.TestCase):
    """Refused calls between those that are not leave the numbers and the last need's night alone."""

    def test_refused_kinds(self):
        for refused in (kind(11, 0), kind(0, 100001), kind(LARGEST, LARGEST)):
            with self.subTest(refused=refused):
                told = ask(kind(), refused, costume(1), need(0, 1), kind(), refused, kind(), kind(), refused, kind())
                self.assertEqual(told, [0, -1, -2, -2, 1, -1, 2, 3, -1, -5])

    def test_refused_costumes(self):
        for refused, why in ((costume(1), -2), (costume(0, 1001, 0), -1), (costume(0, 0, 1001), -1)):
            with self.subTest(refused=refused):
                told = ask(kind(), refused, costume(), refused, costume(), costume(), refused, costume(), costume(),
                           need(), kind())
                self.assertEqual(told, [0, why, 0, why, 1, 2, why, 3, -5, 0, 1])

    def test_refused_needs(self):
        for refused, why in ((need(9, 1), -2), (need(9, 0, 1001), -1), (need(1001), -1), (need(4), -1)):
            with self.subTest(refused=refused):
                told = ask(kind(), need(5), refused, need(4), need(5), refused, need(6), need(5), need(6),
                           costume(), kind())
                self.assertEqual(told, [0, 0, why, -1, 1, why, 2, -1, 3, 0, 1])

    def test_a_refused_first_need(self):
        for refused, why in ((need(9, 1), -2), (need(9, 0, 1001), -1), (need(1001), -1)):
            with self.subTest(refused=refused):
                self.assertEqual(ask(kind(), refused, need(0), need(0)), [0, why, 0, 1])

    def test_refused_as_there_are_too_many(self):
        self.assertEqual(ask(*FOUR_KINDS, kind(), kind(), costume(3), costume(4), need(0, 3))[4:], [-5, -5, 0, -2, 0])
        self.assertEqual(ask(*FULL_OF_COSTUMES, costume(), costume(), need(), kind())[5:], [-5, -5, 0, 1])
        self.assertEqual(ask(*FULL_OF_NEEDS, need(9), need(5), need(4), need(6), costume(), kind())[7:],
                         [-5, -5, -1, -5, 0, 1])


if __name__ == "__main__":
    unittest.main()
