"""The program's answers beside those of by_the_words, over many lists that are the same each time."""
import itertools
import unittest

import by_the_words
from line import BEGINS, BEST, LARGEST, PLAIN, check, costume, joined, kind, more, need, split
from wardrobes.wardrobe import answers


class Numbers:
    """Numbers that look like chance and are the same each time."""

    def __init__(self, seed):
        self.state = seed

    def below(self, limit):
        self.state = (self.state * 6364136223846793005 + 1442695040888963407) % (1 << 64)
        return (self.state >> 33) % limit

    def of(self, *choices):
        return choices[self.below(len(choices))]

    def seldom(self):
        return self.below(12) == 0


def some_wardrobe(numbers, needs):
    kinds = 1 + numbers.below(2)
    calls = [kind(numbers.below(4), numbers.of(0, 1, 1, 2, 100000)) for _ in range(kinds)]
    calls += [costume(numbers.below(kinds), numbers.below(6), numbers.below(4)) for _ in range(4)]
    night = numbers.below(900)
    for _ in range(needs):
        night += numbers.of(0, 0, 1, 1, 2, 3, 4)
        calls.append(need(night, numbers.below(kinds), numbers.below(6)))
    return calls


def some_row(numbers, many):
    if numbers.seldom():
        many = numbers.below(9)
    return [numbers.of(0, 1, 2, 3, 4, 5, LARGEST) if numbers.seldom() else numbers.below(4) for _ in range(many)]


def some_call(numbers, before):
    """One call more behind those before; mostly not refused."""
    rows_length = sum(call[0] == 3 and told[0] >= 0 for call, told in before)
    last_night = max([call[1] for call, told in before if call[0] == 3 and told[0] >= 0], default=0)
    which = numbers.of(2, 3, 4, LARGEST) if numbers.seldom() else numbers.below(2)
    size = numbers.of(1000, 1001, LARGEST) if numbers.seldom() else numbers.below(4)
    give = numbers.of(1000, 1001, LARGEST) if numbers.seldom() else numbers.below(3)
    night = numbers.of(0, 1000, 1001, LARGEST) if numbers.seldom() else last_night + numbers.below(3)
    away = numbers.of(10, 11, LARGEST) if numbers.seldom() else numbers.below(3)
    hire = numbers.of(100000, 100001, LARGEST) if numbers.seldom() else numbers.below(3)
    return numbers.of(kind(away, hire), *[costume(which, size, give)] * 2, *[need(night, which, size)] * 2,
                      BEST, PLAIN, PLAIN, more(which, size, give),
                      *[check(*some_row(numbers, rows_length)) for _ in range(8)])


def some_line(numbers):
    """Sixty calls, begins among them once or never, best and more at most eight times."""
    begins_at = numbers.below(90)
    calls = []
    before = []
    costly = 0
    for place in range(60):
        call = some_call(numbers, before)
        if place == begins_at:
            call = BEGINS
        elif len(calls) < 2 or calls[-1] == BEGINS:
            call = kind(numbers.below(3), numbers.below(3))
        elif call[0] in (4, 7):
            costly += 1
            call = call if costly <= 8 else PLAIN
        calls.append(call)
        if call[0] == 0:
            before = []
        elif call[0] <= 3:
            told = by_the_words.answered([one for one, _ in before] + [call])[-1]
            before.append((call, told))
    return calls


class ByTheWords(unittest.TestCase):
    def held(self, calls):
        self.assertEqual(split(answers(joined(calls))), by_the_words.answered(calls), joined(calls))

    def test_small_wardrobes(self):
        # Every way to put three needs together on near nights.
        before = [kind(0, 3), kind(1, 3), costume(0, 5, 0), costume(0, 6, 1), costume(1, 5, 1)]
        for first, second in itertools.product((0, 1, 2), repeat=2):
            nights = (0, first, first + second)
            for kinds in itertools.product((0, 1), repeat=3):
                for sizes in itertools.product((5, 6, 7), repeat=3):
                    needs = [need(*told) for told in zip(nights, kinds, sizes)]
                    self.held([*before, *needs, BEST, PLAIN, more(1, 6, 1)])

    def test_every_row_of_some_wardrobes(self):
        numbers = Numbers(1)
        rows = list(itertools.product(range(5), repeat=3))
        for _ in range(40):
            before = some_wardrobe(numbers, 3)
            for start in range(0, len(rows), 40):
                self.held([*before, *[check(*row) for row in rows[start:start + 40]]])

    def test_larger_wardrobes(self):
        numbers = Numbers(2)
        for _ in range(100):
            needs = 4 + numbers.below(2)
            rows = [check(*[numbers.below(5) for _ in range(needs)]) for _ in range(5)]
            self.held([*some_wardrobe(numbers, needs), BEST, PLAIN, *rows])

    def test_the_largest_wardrobes(self):
        numbers = Numbers(3)
        for _ in range(4):
            extra = more(0, numbers.below(6), numbers.below(4))
            self.held([*some_wardrobe(numbers, 6), BEST, PLAIN, extra, BEST])

    def test_lists_of_sixty_calls(self):
        numbers = Numbers(4)
        for _ in range(40):
            self.held(some_line(numbers))


if __name__ == "__main__":
    unittest.main()
