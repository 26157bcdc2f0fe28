"""Answers a list of calls by the document's words, one after another, however long that takes.

It shares nothing with the program: every row that could be written is written out and held against the words.
"""
import itertools


def suits(costume, need):
    kind, size, give = costume
    _, wanted, wearer = need
    return kind == wanted and wearer - give <= size <= wearer + give


def is_back(kinds, costume, earlier, later):
    away, _ = kinds[costume[0]]
    return later[0] >= earlier[0] + away + 1


def wrong_at(kinds, costumes, needs, row):
    """check's two needs, or None if the row can be."""
    for number, told in enumerate(row):
        if told == len(costumes):
            continue
        if not suits(costumes[told], needs[number]):
            return [number, number]
        for before in range(number):
            if row[before] == told and not is_back(kinds, costumes[told], needs[before], needs[number]):
                return [number, before]
    return None


def cost(kinds, costumes, needs, row):
    total = 0
    for number, told in enumerate(row):
        if told == len(costumes):
            total += kinds[needs[number][1]][1]
    return total


def best(kinds, costumes, needs):
    every = itertools.product(range(len(costumes) + 1), repeat=len(needs))
    good = [row for row in every if wrong_at(kinds, costumes, needs, row) is None]
    least = min(cost(kinds, costumes, needs, row) for row in good)
    cheapest = [row for row in good if cost(kinds, costumes, needs, row) == least]
    return [least, len(cheapest), *min(cheapest)]


def plain(kinds, costumes, needs):
    row = []
    for _ in needs:
        row.append(min(told for told in range(len(costumes) + 1)
                       if wrong_at(kinds, costumes, needs, row + [told]) is None))
    return [cost(kinds, costumes, needs, row), *row]


def check(kinds, costumes, needs, row):
    if len(row) != len(needs) or any(told > len(costumes) for told in row):
        return [-1]
    wrong = wrong_at(kinds, costumes, needs, row)
    return [cost(kinds, costumes, needs, row)] if wrong is None else [-6, *wrong]


def added(things, thing, most):
    if len(things) == most:
        return [-5]
    things.append(thing)
    return [len(things) - 1]


def answered(calls):
    """calls: a list each, as they stand in the program's list. The answers: a list each."""
    kinds, costumes, needs = [], [], []
    found = []
    for number, *behind in calls:
        if number == 0:
            kinds, costumes, needs = [], [], []
            found.append([0])
        elif number == 1:
            wrong = behind[0] > 10 or behind[1] > 100000
            found.append([-1] if wrong else added(kinds, behind, 4))
        elif number == 2:
            wrong = max(behind[1:]) > 1000
            found.append([-2] if behind[0] >= len(kinds) else [-1] if wrong else added(costumes, behind, 4))
        elif number == 3:
            wrong = behind[0] > 1000 or behind[2] > 1000 or any(behind[0] < need[0] for need in needs)
            found.append([-2] if behind[1] >= len(kinds) else [-1] if wrong else added(needs, behind, 6))
        elif number == 4:
            found.append(best(kinds, costumes, needs))
        elif number == 5:
            found.append(check(kinds, costumes, needs, behind[1:]))
        elif number == 6:
            found.append(plain(kinds, costumes, needs))
        elif behind[0] >= len(kinds):
            found.append([-2])
        elif max(behind[1:]) > 1000:
            found.append([-1])
        else:
            least, *rest = best(kinds, costumes + [behind], needs)
            found.append([best(kinds, costumes, needs)[0] - least, *rest])
    return found
