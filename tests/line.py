"""Helps the tests to write a list of calls and to read the list that is given back."""
from wardrobes.wardrobe import answers

LARGEST = 4294967295

BEGINS = [0]
BEST = [4]
PLAIN = [6]


def kind(away=0, hire=0):
    return [1, away, hire]


def costume(kind=0, size=0, give=0):
    return [2, kind, size, give]


def need(night=0, kind=0, size=0):
    return [3, night, kind, size]


def check(*row):
    return [5, len(row), *row]


def more(kind=0, size=0, give=0):
    return [7, kind, size, give]


def joined(calls):
    return [number for call in calls for number in call]


def split(answered):
    """The answers, a list each; fails where the counts do not fit the numbers."""
    found = []
    start = 0
    while start < len(answered):
        end = start + 1 + answered[start]
        if answered[start] < 1 or end > len(answered):
            raise AssertionError(f"the counts do not fit: {answered}")
        found.append(answered[start + 1:end])
        start = end
    return found


def all_told(*calls):
    """The answer to each call, a list each; fails where there is not one for each."""
    found = split(answers(joined(calls)))
    if len(found) != len(calls):
        raise AssertionError(f"not an answer for each call: {found}")
    return found


def last_told(*calls):
    """The answer to the last call."""
    return all_told(*calls)[-1]


def ask(*calls):
    """The first number of each answer; fails where an answer is not one number."""
    found = all_told(*calls)
    if any(len(one) != 1 for one in found):
        raise AssertionError(f"not one number for each call: {found}")
    return [one[0] for one in found]
