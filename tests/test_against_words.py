"""Holds many lofts against the document's words, followed here another way than in the program."""

import itertools
import random
import unittest

from tests.asking import ask, begins, best, check, fewest, sail


def standing(sails, chosen, wind):
    return sum(1 for i, (least, greatest, cost) in enumerate(sails) if chosen >> i & 1 and least <= wind <= greatest)


def size(chosen):
    return bin(chosen).count("1")


def cost_of(sails, chosen):
    return sum(cost for i, (least, greatest, cost) in enumerate(sails) if chosen >> i & 1)


def enough(winds, sails, k, chosen):
    return all(standing(sails, chosen, wind) >= k for wind in winds)


def check_by_words(winds, sails, k, chosen):
    if enough(winds, sails, k, chosen):
        return [cost_of(sails, chosen), size(chosen)]
    wind = min(wind for wind in winds if standing(sails, chosen, wind) < k)
    return [-6, wind, standing(sails, chosen, wind)]


def best_by_words(winds, sails, k):
    sets = [chosen for chosen in range(2 ** len(sails)) if enough(winds, sails, k, chosen)]
    if not sets:
        return [-6]
    cheapest = [chosen for chosen in sets if cost_of(sails, chosen) == min(cost_of(sails, other) for other in sets)]
    good = [chosen for chosen in cheapest if size(chosen) == min(size(other) for other in cheapest)]
    return [cost_of(sails, good[0]), size(good[0]), len(good), min(good)]


def fewest_by_words(winds, sails):
    taken = []
    while True:
        bare = [wind for wind in winds if not any(sails[i][0] <= wind <= sails[i][1] for i in taken)]
        if not bare:
            return [len(taken)] + taken
        able = [(-greatest, i) for i, (least, greatest, cost) in enumerate(sails) if least <= min(bare) <= greatest]
        if not able:
            return [-6, min(bare)]
        taken.append(min(able)[1])


def span(source, top):
    return tuple(sorted((source.randint(0, top), source.randint(0, top))))


def lofts():
    source = random.Random(7)
    for number in range(250):
        top = source.choice((3, 6, 12, 40))
        dearest = source.choice((0, 2, 5, 1000))
        least, greatest = span(source, top)
        sails = [span(source, top) + (source.randint(0, dearest),) for i in range(source.randint(0, 6))]
        yield least, greatest, sails


class AgainstWords(unittest.TestCase):
    def test_lofts_of_many_kinds(self):
        for least, greatest, sails in lofts():
            winds = range(least, greatest + 1)
            sets = sorted({0, 2 ** len(sails) - 1, 2 ** len(sails) // 3, 2 ** len(sails) // 2})
            asked = list(itertools.product(range(4), sets))
            told = ask(begins(least, greatest), *[sail(*one) for one in sails],
                       *[check(k, chosen) for k, chosen in asked], *[best(k) for k in range(4)], fewest())
            wanted = [[0]] + [[i] for i in range(len(sails))]
            wanted += [check_by_words(winds, sails, k, chosen) for k, chosen in asked]
            wanted += [best_by_words(winds, sails, k) for k in range(4)] + [fewest_by_words(winds, sails)]
            self.assertEqual(told, wanted, (least, greatest, sails))

    def test_no_set_that_is_enough_is_cheaper(self):
        for least, greatest, sails in itertools.islice(lofts(), 60):
            start = [begins(least, greatest)] + [sail(*one) for one in sails]
            for k in range(4):
                found = ask(*start, best(k))[-1]
                told = [ask(*start, check(k, chosen))[-1] for chosen in range(2 ** len(sails))]
                good = [answer for answer in told if answer[0] != -6]
                self.assertEqual(found[:2], min(good, default=[-6]))
                if good:
                    self.assertEqual(found[2:], [told.count(found[:2]), told.index(found[:2])])

    def test_one_after_another_there_are_no_fewer(self):
        for least, greatest, sails in lofts():
            alike = [sail(one[0], one[1], 1) for one in sails]
            told = ask(begins(least, greatest), *alike, best(1), fewest())
            self.assertEqual(told[-2][0], told[-1][0], (least, greatest, sails))
