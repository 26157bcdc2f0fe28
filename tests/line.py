"""Helps the tests to write a list of calls and to read the list that is given back."""
from wardrobes.wardrobe import answers

LARGEST = 4294967295

BEGINS = [0]


def kind(away=0, hire=0):
    return [1, away, hire]


def costume(kind=0, size=0, give=0):
    return [2, kind, size, give]


def need(night=0, kind=0, size=0):
    return [3, night, kind, size]


def joined(calls):
    return [number for call in calls for number in call]


def split(answered):
    """The answers, a list each; fails where the counts do not fit the numbers."""
    found = []
    start = 0
    while start < len(answered):
        end = start + 1 + answered[start]
        if answered[start] < 1 or end > len(answered):
            raise AssertionError(f"the counts do not fit: {answered}")
        found.append(answered[start + 1:end])
        start = end
    return found


def ask(*calls):
    """The first number of each answer; fails where an answer is not one number."""
    found = split(answers(joined(calls)))
    if len(found) != len(calls) or any(len(one) != 1 for one in found):
        raise AssertionError(f"not one number for each call: {found}")
    return [one[0] for one in found]
