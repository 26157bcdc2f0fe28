"""begins, kind, costume and need at ordinary inputs, and how calls and answers stand in the lists."""
import unittest

from line import BEGINS, ask, costume, joined, kind, need
from wardrobes.wardrobe import answers


class TheLists(unittest.TestCase):
    def test_each_answer_stands_behind_its_count(self):
        calls = [0, 1, 3, 50, 1, 0, 100, 2, 1, 40, 5, 3, 7, 0, 42]
        self.assertEqual(answers(calls), [1, 0, 1, 0, 1, 1, 1, 0, 1, 0])

    def test_a_refusal_is_one_number(self):
        self.assertEqual(answers([1, 11, 0, 2, 0, 0, 0, 3, 0, 0, 0]), [1, -1, 1, -2, 1, -2])
        five_kinds = [1, 0, 0] * 5
        self.assertEqual(answers(five_kinds), [1, 0, 1, 1, 1, 2, 1, 3, 1, -5])

    def test_one_call_alone(self):
        self.assertEqual(answers([0]), [1, 0])
        self.assertEqual(answers([1, 2, 30]), [1, 0])
        self.assertEqual(answers([2, 0, 1, 2]), [1, -2])
        self.assertEqual(answers([3, 0, 0, 1]), [1, -2])

    def test_numbers_that_look_like_calls_are_not_read_as_calls(self):
        self.assertEqual(answers([1, 1, 1, 1, 2, 3, 2, 1, 0, 0, 3, 3, 1, 3]), [1, 0, 1, 1, 1, 0, 1, 0])

    def test_any_call_may_be_first(self):
        self.assertEqual(ask(BEGINS, kind(), costume(), need()), [0, 0, 0, 0])
        self.assertEqual(ask(kind(), costume(), need()), [0, 0, 0])
        self.assertEqual(ask(costume(), kind(), costume(), need()), [-2, 0, 0, 0])
        self.assertEqual(ask(need(), kind(), need(), costume()), [-2, 0, 0, 0])

    def test_sixty_calls(self):
        round_of_ten = [BEGINS, kind(1, 2), kind(3, 4), costume(1, 5, 6), need(7, 0, 8), need(7, 1, 9),
                        costume(0, 10, 11), need(6, 0, 12), costume(2, 1, 1), kind(5, 100001)]
        calls = round_of_ten * 6
        self.assertEqual(len(calls), 60)
        self.assertEqual(ask(*calls), [0, 0, 1, 0, 0, 1, 1, -1, -2, -1] * 6)

    def test_sixty_calls_of_one_sort(self):
        self.assertEqual(ask(*[BEGINS] * 60), [0] * 60)
        self.assertEqual(ask(*[kind()] * 60), [0, 1, 2, 3] + [-5] * 56)
        self.assertEqual(ask(kind(), *[costume()] * 59), [0, 0, 1, 2, 3] + [-5] * 55)
        self.assertEqual(ask(kind(), *[need()] * 59), [0, 0, 1, 2, 3, 4, 5] + [-5] * 53)

    def test_answers_are_whole_numbers_in_a_list(self):
        given = answers(joined([BEGINS, kind(), costume(), need(), costume(9)]))
        self.assertIs(type(given), list)
        self.assertEqual([type(number) for number in given], [int] * 10)


class TheNumbers(unittest.TestCase):
    def test_kinds_costumes_and_needs_are_counted_apart(self):
        told = ask(kind(), kind(), need(1, 1), costume(1), kind(), need(2, 2), need(2), costume(2), costume(0), kind())
        self.assertEqual(told, [0, 1, 0, 0, 2, 1, 2, 1, 2, 3])

    def test_each_kind_there_is_can_be_named(self):
        four = [kind(night, 10 * night) for night in range(4)]
        for number in range(4):
            with self.subTest(kind=number):
                self.assertEqual(ask(*four, costume(number), need(0, number)), [0, 1, 2, 3, 0, 0])

    def test_the_same_told_twice_is_two(self):
        told = ask(kind(1, 2), kind(1, 2), costume(0, 3, 4), costume(0, 3, 4), need(5, 0, 6), need(5, 0, 6))
        self.assertEqual(told, [0, 1, 0, 1, 0, 1])


class Begins(unittest.TestCase):
    def test_begins_answers_0_at_any_place(self):
        self.assertEqual(ask(BEGINS, BEGINS, kind(), BEGINS, costume(), BEGINS), [0, 0, 0, 0, -2, 0])

    def test_no_kinds_after_it(self):
        self.assertEqual(ask(kind(), kind(), BEGINS, costume(0), need(0, 0), kind(), costume(1), need(0, 1)),
                         [0, 1, 0, -2, -2, 0, -2, -2])

    def test_numbers_are_counted_from_0_again(self):
        filled = [kind()] * 4 + [costume()] * 4 + [need()] * 6
        numbers = [0, 1, 2, 3, 0, 1, 2, 3, 0, 1, 2, 3, 4, 5]
        self.assertEqual(ask(*filled, BEGINS, *filled, kind(), costume(), need()),
                         numbers + [0] + numbers + [-5, -5, -5])

    def test_the_last_night_is_forgotten(self):
        self.assertEqual(ask(kind(), need(1000), need(0), BEGINS, kind(), need(0)), [0, 0, -1, 0, 0, 0])


if __name__ == "__main__":
    unittest.main()
