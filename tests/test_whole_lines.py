"""Whole lists of calls against a second telling of the words, over sets of things instead of numbers."""

import itertools
import unittest

from setfunctions.tools import answers


def subsets(things):
    """All sets of these things, in the order of their numbers."""
    found = [frozenset()]
    for thing in things:
        found += [one | {thing} for one in found]
    return found


def number_of(one):
    return sum(2 ** (thing - 1) for thing in one)


def taken(raw):
    return raw // 2 if raw % 2 == 0 else -(raw + 1) // 2


class Words:
    def __init__(self):
        self.renew(1)
        self.first = {one: 0 for one in self.sets}
        self.second = {one: 0 for one in self.sets}

    def renew(self, n):
        self.n = n
        self.sets = subsets(range(1, n + 1))
        self.every = self.sets[-1]

    def told(self):
        return [self.n] + [self.first[one] for one in self.sets]

    def change(self, rule):
        self.first = {one: rule(one) for one in self.sets}
        return self.told()

    def begin(self, n, rule):
        if n != self.n:
            self.renew(n)
            self.second = {one: 0 for one in self.sets}
        return self.change(rule)

    def tell(self, row):
        if len(row) not in (2, 4, 8, 16, 32) or any(raw > 20000 for raw in row):
            return [-1]
        return self.begin(len(row).bit_length() - 1, lambda one: taken(row[number_of(one)]))[:1]

    def cover(self, n, row):
        points = list(zip(row[::2], row[1::2]))
        if not 1 <= n <= 5 or len(row) % 2 or len(points) > 20 or any(w > 1000 or s >= 2 ** n for w, s in points):
            return [-1]
        sets = subsets(range(1, n + 1))
        return self.begin(n, lambda one: sum(w for w, s in points if one & sets[s]))

    def set_value(self, s, v):
        if s >= len(self.sets) or v > 20000:
            return [-1]
        self.first[self.sets[s]] = taken(v)
        return [0]

    def brings(self, thing, one):
        return self.first[one | {thing}] - self.first[one]

    def kind(self, k):
        if k > 2:
            return [-1]
        for one in self.sets:
            for low, high in itertools.combinations(sorted(self.every - one), 2):
                beside, alone = self.brings(high, one | {low}), self.brings(high, one)
                if not (beside <= alone, beside >= alone, beside == alone)[k]:
                    return [0, number_of(one), low, high]
        return [1]

    def falls(self):
        for one in self.sets:
            for thing in sorted(self.every - one):
                if self.brings(thing, one) < 0:
                    return [0, number_of(one), thing]
        return [1]

    def least(self):
        lowest = min(self.first.values())
        least = [one for one in self.sets if self.first[one] == lowest]
        return [lowest, len(least), number_of(frozenset.intersection(*least)), number_of(frozenset.union(*least))]

    def less(self, row):
        if len(row) != self.n or any(raw > 20000 for raw in row):
            return [-1]
        was = self.first
        return self.change(lambda one: was[one] - sum(taken(row[thing - 1]) for thing in one))

    def onto(self, t):
        if t >= len(self.sets):
            return [-1]
        was, kept = self.first, self.sets[t]
        return self.change(lambda one: was[one & kept])

    def beyond(self, t):
        if t >= len(self.sets):
            return [-1]
        was, joined = self.first, self.sets[t]
        return self.change(lambda one: was[one | joined] - was[joined])

    def rest(self):
        was = self.first
        return self.change(lambda one: was[self.every] - was[self.every - one])

    def risen(self):
        was = self.first
        return self.change(lambda one: min(was[wider] for wider in self.sets if wider >= one))

    def swap(self):
        self.first, self.second = self.second, self.first
        return self.told()

    def parted(self):
        was = self.first
        return self.change(lambda one: min(was[part] + self.second[one - part] for part in subsets(one)))


NAMES = ("tell", "cover", "set_value", "told", "kind", "falls", "least", "less", "onto", "beyond", "rest", "risen",
         "swap", "parted")


class Dice:
    """Numbers without an order to be seen, the same each time."""

    def __init__(self, seed):
        self.seed = seed

    def below(self, count):
        self.seed = (self.seed * 6364136223846793005 + 1442695040888963407) % 2 ** 64
        return (self.seed >> 33) % count

    def one_of(self, *choices):
        return choices[self.below(len(choices))]

    def raw(self):
        if self.below(60) == 0:
            return self.one_of(20000, 20001, 19999, 4294967295)
        return self.below(self.one_of(4, 12, 20001))

    def chosen(self, n):
        if self.below(6) == 0:
            return self.one_of(2 ** n - 1, 2 ** n, 2 ** n + 1, 4294967295)
        return self.below(2 ** n)


def arguments(name, n, dice):
    """The whole numbers and the rows of one call, mostly right ones."""
    if name == "tell":
        count = dice.one_of(2, 4, 8, 16, 32, 2 ** n, 2 ** n, dice.below(41))
        return [[dice.raw() for k in range(count)]]
    if name == "cover":
        other = dice.one_of(n, n, 1 + dice.below(5), dice.below(8))
        row = [number for k in range(dice.below(22)) for number in (dice.below(1001), dice.below(2 ** min(other, 5)))]
        if dice.below(5) == 0:
            row.append(dice.below(2000))
        return [other, row]
    if name == "set_value":
        return [dice.chosen(n), dice.raw()]
    if name == "kind":
        return [dice.one_of(0, 1, 2, 0, 1, 2, 3)]
    if name == "less":
        return [[dice.raw() for k in range(dice.one_of(n, n, n, n, n + 1, n - 1, dice.below(11)))]]
    if name in ("onto", "beyond"):
        return [dice.chosen(n)]
    return []


def line(seed, count):
    """A list of so many calls, and what the words answer."""
    dice, words, calls, want = Dice(seed), Words(), [], []
    for k in range(count):
        number = dice.below(14)
        handed_in = arguments(NAMES[number], words.n, dice)
        calls.append(number)
        for one in handed_in:
            calls += [len(one), *one] if isinstance(one, list) else [one]
        given = getattr(words, NAMES[number])(*handed_in)
        want += [len(given), *given]
    return calls, want


class WholeLines(unittest.TestCase):
    def test_thirty_calls_in_any_order(self):
        for seed in range(300):
            calls, want = line(seed, 30)
            was = list(calls)
            self.assertEqual(answers(calls), want, seed)
            self.assertEqual(calls, was)
            self.assertEqual(answers(calls), want, seed)

    def test_few_calls_each_of_them_first(self):
        firsts = set()
        for seed in range(1000, 1600):
            calls, want = line(seed, 1 + seed % 4)
            firsts.add(calls[0])
            self.assertEqual(answers(calls), want, seed)
        self.assertEqual(firsts, set(range(14)))


if __name__ == "__main__":
    unittest.main()
