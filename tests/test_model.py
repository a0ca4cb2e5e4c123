"""Many runs of calls beside a plain model of the document, and what it says under "What holds"."""

import random
import unittest
from itertools import combinations

from calling import GREATEST, ask, begun, last, wish


def matchings(edges):
    """All sets of edges that don't touch."""
    found = []
    for many in range(4):
        for chosen in combinations(edges, many):
            if len({end for edge in chosen for end in edge}) == 2 * many:
                found.append(chosen)
    return found


class Model:
    """Lists by student, and pairs as a set of two-member tuples, the lesser first."""

    def __init__(self):
        self.n = 0
        self.lists = {}
        self.pairs = set()

    def edges(self):
        return [(a, b) for a, b in combinations(range(self.n), 2) if b in self.lists[a] and a in self.lists[b]]

    def mate(self, pairs, a):
        for pair in pairs:
            if a in pair:
                return pair[0] + pair[1] - a
        return a

    def score(self, pairs, a):
        return (self.lists[a] + [a]).index(self.mate(pairs, a))

    def breaking(self, pairs):
        return [(a, b) for a, b in self.edges()
                if self.lists[a].index(b) < self.score(pairs, a) and self.lists[b].index(a) < self.score(pairs, b)]

    def row(self, pairs):
        row = [0] * 7
        for a, b in pairs:
            row[a] = b + 1
            row[b] = a + 1
        return row

    def good(self):
        """By the rows told: alone is 0 there and so comes first, then the lesser one."""
        return sorted([pairs for pairs in matchings(self.edges()) if not self.breaking(pairs)], key=self.row)

    def missing(self, *named):
        return any(a >= self.n for a in named)

    def answer(self, call):
        return getattr(self, "do_" + call[0])(*call[1:])

    def do_start(self, n):
        if n > 7:
            return [-22]
        self.n = n
        self.lists = {a: [] for a in range(n)}
        self.pairs = set()
        return [0]

    def do_wish(self, a, n, row):
        if self.missing(a):
            return [-2]
        wished = row[:n]
        if n > 6 or len(set(wished)) < n or not set(wished) <= set(range(self.n)) - {a}:
            return [-22]
        before = self.lists[a]
        self.lists[a] = wished
        self.pairs &= set(self.edges())
        return [len(before), len(self.pairs)]

    def do_swap(self, a, i, j):
        if self.missing(a):
            return [-2]
        wished = self.lists[a]
        if max(i, j) >= len(wished) or i == j:
            return [-22]
        told = [wished[i], wished[j]]
        wished[i], wished[j] = wished[j], wished[i]
        return told

    def do_pair(self, a, b):
        if self.missing(a, b):
            return [-2]
        pair = tuple(sorted((a, b)))
        if pair not in self.edges():
            return [-33]
        if any(set(pair) & set(other) for other in self.pairs):
            return [-16]
        self.pairs.add(pair)
        return [len(self.pairs)]

    def do_part(self, a):
        if self.missing(a):
            return [-2]
        had = self.mate(self.pairs, a)
        self.pairs = {pair for pair in self.pairs if a not in pair}
        return [-6 if had == a else had]

    def do_break(self, a, b):
        if self.missing(a, b):
            return [-2]
        pair = tuple(sorted((a, b)))
        if pair not in self.breaking(self.pairs):
            return [-33]
        self.pairs = {other for other in self.pairs if not set(other) & set(pair)} | {pair}
        return [len(self.pairs), len(self.breaking(self.pairs))]

    def do_all(self):
        good = self.good()
        if not good:
            return [-33]
        self.pairs = set(good[0])
        return [len(self.pairs)] + self.row(self.pairs)

    def do_holds(self):
        return [int(not self.breaking(self.pairs))]

    def do_breakers(self):
        twos = self.breaking(self.pairs)
        return [len(twos), *min(twos, default=(0, 0))]

    def do_would(self, a, b):
        if self.missing(a, b):
            return [-2]
        return [int(tuple(sorted((a, b))) in self.breaking(self.pairs))]

    def do_good(self):
        return [len(self.good())]

    def do_nth(self, k):
        good = self.good()
        if k >= len(good):
            return [-2]
        return [len(good[k])] + self.row(good[k])

    def by_score(self, a, place):
        if self.missing(a):
            return [-2]
        good = sorted(self.good(), key=lambda pairs: self.score(pairs, a))
        return [self.mate(good[place], a)] if good else [-33]

    def do_best(self, a):
        return self.by_score(a, 0)

    def do_worst(self, a):
        return self.by_score(a, -1)

    def do_alone(self):
        good = self.good()
        if not good:
            return [-33]
        alone = [a for a in range(self.n) if self.mate(good[0], a) == a]
        return [len(alone), sum(2 ** a for a in alone)]


def some_lists(chance, n):
    """Now long lists, now short ones."""
    keep = chance.choice((30, 60, 80, 100, 100))
    lists = {}
    for a in range(n):
        wished = [b for b in range(n) if b != a and chance.randrange(100) < keep]
        chance.shuffle(wished)
        lists[a] = wished
    return lists


def some_number(chance, n):
    return GREATEST if chance.randrange(40) == 0 else chance.randrange(n + 1)


def some_call(chance, n):
    named = [some_number(chance, n) for turn in range(2)]
    name = chance.choice(("wish", "swap", "swap", "pair", "pair", "pair", "part", "break", "break", "break", "all",
                          "holds", "breakers", "would", "good", "nth", "best", "worst", "alone"))
    if name == "wish":
        if chance.randrange(4) == 0:
            return ("wish", named[0], chance.randrange(8), [some_number(chance, n) for turn in range(6)])
        a = min(named[0], n)
        return wish(a, some_lists(chance, n).get(a, []), some_number(chance, n))
    if name == "swap":
        return ("swap", named[0], some_number(chance, n - 1), some_number(chance, n - 1))
    if name == "nth":
        return ("nth", chance.randrange(4))
    return (name, *named[:{"pair": 2, "break": 2, "would": 2, "part": 1, "best": 1, "worst": 1}.get(name, 0)])


class BesideTheModel(unittest.TestCase):
    def test_runs_of_calls(self):
        chance = random.Random(20261116)
        met = set()
        for turn in range(250):
            n = chance.choice((1, 2, 3, 4, 4, 5, 5, 6, 6, 7, 7))
            calls = begun(n, some_lists(chance, n)) + [some_call(chance, n) for step in range(40)]
            if turn % 10 == 0:
                calls += begun(chance.choice((8, n)), {}) + [("best", 0), ("part", 0)]
            model = Model()
            for call, told in zip(calls, ask(*calls), strict=True):
                self.assertEqual(told, model.answer(call), (calls, call))
                met.add((call[0], min(told[0], 0)))
        self.assertEqual(sorted(met), sorted([
            (name, answer) for name, refusals in {
                "start": (-22,), "wish": (-2, -22), "swap": (-2, -22), "pair": (-2, -33, -16), "part": (-2, -6),
                "break": (-2, -33), "all": (-33,), "holds": (), "breakers": (), "would": (-2,), "good": (),
                "nth": (-2,), "best": (-2, -33), "worst": (-2, -33), "alone": (-33,)}.items()
            for answer in (0, *refusals)]))


class WhatHolds(unittest.TestCase):
    def test_of_pairings(self):
        chance = random.Random(7)
        several = 0
        for turn in range(500):
            n = chance.choice((4, 5, 6, 7))
            lists = some_lists(chance, n)
            calls = begun(n, lists)
            many = last(*calls, "good")[0]
            rows = [last(*calls, ("nth", k)) for k in range(many)]
            self.assertEqual(last(*calls, ("nth", many)), [-2])
            several += many > 1
            model = Model()
            for call in calls:
                model.answer(call)
            most = max(len(pairs) for pairs in matchings(model.edges()))
            for row in rows:
                pairs = [("pair", a, b - 1) for a, b in enumerate(row[1:]) if b > a]
                self.assertEqual(last(*calls, *pairs, "holds"), [1])
                self.assertEqual([b == 0 for b in row[1:]], [b == 0 for b in rows[0][1:]])
                self.assertGreaterEqual(2 * row[0], most)
            self.assertEqual(rows, sorted(rows, key=lambda row: row[1:]))
        self.assertGreater(several, 10)


if __name__ == "__main__":
    unittest.main()
