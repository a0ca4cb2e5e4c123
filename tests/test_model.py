"""Many runs of calls beside a plain model of the document, and what it says under "What holds"."""

import random
import unittest
from functools import lru_cache
from itertools import combinations, permutations, product

from calling import AS_THEY_ARE, GREATEST, NAMES, ask, begun, last, ringed, wish

RING_SIZES = ((), (2,), (3,), (4,), (5,), (6,), (7,), (2, 2), (3, 2), (4, 2), (5, 2), (3, 3), (3, 4), (3, 4))
CHANGES = ("wish", "swap", "pair", "part", "break", "all")
STUDENTS_NAMED = {"pair": 2, "break": 2, "would": 2, "ever": 2, "place": 2, "part": 1, "best": 1, "worst": 1, "ring": 1,
                  "friends": 1, "with": 1, "look": 1}
REFUSALS = {"start": (-22,), "wish": (-2, -22), "swap": (-2, -22), "pair": (-2, -33, -16), "part": (-2, -6),
            "break": (-2, -33), "all": (-33,), "would": (-2,), "nth": (-2,), "best": (-2, -33), "worst": (-2, -33),
            "alone": (-33,), "ever": (-2, -22), "ring": (-2,), "without": (-22,), "place": (-2, -6), "friends": (-2,),
            "with": (-2, -6), "fairest": (-33,), "look": (-2,), "back": (-2,), "again": (-2,)}


def matchings(edges):
    """All sets of edges that don't touch."""
    found = []
    for many in range(4):
        for chosen in combinations(edges, many):
            if len({end for edge in chosen for end in edge}) == 2 * many:
                found.append(chosen)
    return found


def rather(wished, b, c):
    """Whether one with this list would rather have b than c; None is nobody."""
    return wished.index(b) < (len(wished) if c is None else wished.index(c))


def share(lists, a, b):
    return b in lists[a] and a in lists[b]


def hold(lists, after):
    """Whether these rings do, word by word; after tells who's next to each."""
    before = {b: a for a, b in enumerate(after)}
    for a in range(len(lists)):
        if after[a] != a:
            if not share(lists, a, after[a]) or not share(lists, a, before[a]):
                return False
            if after[a] != before[a] and not rather(lists[a], after[a], before[a]):
                return False
    had = [None if before[a] == a else before[a] for a in range(len(lists))]
    return not any(share(lists, a, b) and rather(lists[a], b, had[a]) and rather(lists[b], a, had[b])
                   for a, b in combinations(range(len(lists)), 2))


@lru_cache(maxsize=None)
def rings_that_hold(lists):
    """All of them; permutations come in just the order in which the lesser one next to the least student is first."""
    return [after for after in permutations(range(len(lists))) if hold(lists, after)]


def rounds(after):
    """The rings, each as a tuple that begins with its least one."""
    found = []
    for a in range(len(after)):
        ring = [a]
        while after[ring[-1]] != a:
            ring.append(after[ring[-1]])
        if min(ring) == a:
            found.append(tuple(ring))
    return found


def odd(after):
    return [ring for ring in rounds(after) if len(ring) in (3, 5, 7)]


def bits(members):
    return sum(2 ** a for a in members)


def padded(members, length):
    return ([a + 1 for a in members] + [0] * length)[:length]


class Model:
    """Lists by student, and pairs as a set of two-member tuples, the lesser first.

    line has both as they were and will be again, in order, and at tells where in it they are now.
    """

    def __init__(self):
        self.n = 0
        self.lists = {}
        self.pairs = set()
        self.line = [self.kept()]
        self.at = 0

    def kept(self):
        return ({a: list(wished) for a, wished in self.lists.items()}, set(self.pairs))

    def go(self, at):
        self.at = at
        self.lists, self.pairs = self.line[at]
        self.lists, self.pairs = self.kept()

    def edges(self):
        return [(a, b) for a, b in combinations(range(self.n), 2) if b in self.lists[a] and a in self.lists[b]]

    def mate(self, pairs, a):
        for pair in pairs:
            if a in pair:
                return pair[0] + pair[1] - a
        return a

    def score(self, pairs, a):
        return (self.lists[a] + [a]).index(self.mate(pairs, a))

    def breaking(self, pairs):
        return [(a, b) for a, b in self.edges()
                if self.lists[a].index(b) < self.score(pairs, a) and self.lists[b].index(a) < self.score(pairs, b)]

    def row(self, pairs):
        row = [0] * 7
        for a, b in pairs:
            row[a] = b + 1
            row[b] = a + 1
        return row

    def good(self):
        """By the rows told: alone is 0 there and so comes first, then the lesser one."""
        return sorted([pairs for pairs in matchings(self.edges()) if not self.breaking(pairs)], key=self.row)

    def missing(self, *named):
        return any(a >= self.n for a in named)

    def answer(self, call):
        name, *given = (call,) if isinstance(call, str) else call
        told = getattr(self, "do_" + name)(*given)
        if name in CHANGES and told[0] >= 0:
            self.line = (self.line[:self.at + 1] + [self.kept()])[-21:]
            self.at = len(self.line) - 1
        return told

    def do_start(self, n):
        if n > 7:
            return [-22]
        self.n = n
        self.lists = {a: [] for a in range(n)}
        self.pairs = set()
        self.line = [self.kept()]
        self.at = 0
        return [0]

    def do_wish(self, a, n, row):
        if self.missing(a):
            return [-2]
        wished = row[:n]
        if n > 6 or len(set(wished)) < n or not set(wished) <= set(range(self.n)) - {a}:
            return [-22]
        before = self.lists[a]
        self.lists[a] = wished
        self.pairs &= set(self.edges())
        return [len(before), len(self.pairs)]

    def do_swap(self, a, i, j):
        if self.missing(a):
            return [-2]
        wished = self.lists[a]
        if max(i, j) >= len(wished) or i == j:
            return [-22]
        told = [wished[i], wished[j]]
        wished[i], wished[j] = wished[j], wished[i]
        return told

    def do_pair(self, a, b):
        if self.missing(a, b):
            return [-2]
        pair = tuple(sorted((a, b)))
        if pair not in self.edges():
            return [-33]
        if any(set(pair) & set(other) for other in self.pairs):
            return [-16]
        self.pairs.add(pair)
        return [len(self.pairs)]

    def do_part(self, a):
        if self.missing(a):
            return [-2]
        had = self.mate(self.pairs, a)
        self.pairs = {pair for pair in self.pairs if a not in pair}
        return [-6 if had == a else had]

    def do_break(self, a, b):
        if self.missing(a, b):
            return [-2]
        pair = tuple(sorted((a, b)))
        if pair not in self.breaking(self.pairs):
            return [-33]
        self.pairs = {other for other in self.pairs if not set(other) & set(pair)} | {pair}
        return [len(self.pairs), len(self.breaking(self.pairs))]

    def do_all(self):
        good = self.good()
        if not good:
            return [-33]
        self.pairs = set(good[0])
        return [len(self.pairs)] + self.row(self.pairs)

    def do_holds(self):
        return [int(not self.breaking(self.pairs))]

    def do_breakers(self):
        twos = self.breaking(self.pairs)
        return [len(twos), *min(twos, default=(0, 0))]

    def do_would(self, a, b):
        if self.missing(a, b):
            return [-2]
        return [int(tuple(sorted((a, b))) in self.breaking(self.pairs))]

    def do_good(self):
        return [len(self.good())]

    def do_nth(self, k):
        good = self.good()
        if k >= len(good):
            return [-2]
        return [len(good[k])] + self.row(good[k])

    def by_score(self, a, place):
        if self.missing(a):
            return [-2]
        good = sorted(self.good(), key=lambda pairs: self.score(pairs, a))
        return [self.mate(good[place], a)] if good else [-33]

    def do_best(self, a):
        return self.by_score(a, 0)

    def do_worst(self, a):
        return self.by_score(a, -1)

    def do_alone(self):
        good = self.good()
        if not good:
            return [-33]
        alone = [a for a in range(self.n) if self.mate(good[0], a) == a]
        return [len(alone), bits(alone)]

    def do_ever(self, a, b):
        if self.missing(a, b):
            return [-2]
        if a == b:
            return [-22]
        return [sum(tuple(sorted((a, b))) in pairs for pairs in self.good())]

    def do_fairest(self):
        told = []
        for pairs in self.good():
            scores = [self.score(pairs, a) for a in range(self.n)]
            told.append([max(scores, default=0), sum(scores), *self.row(pairs)])
        return min(told, default=[-33])

    def rings(self, away=()):
        lists = [[b for b in self.lists[a] if b not in away and a not in away] for a in range(self.n)]
        return rings_that_hold(tuple(tuple(wished) for wished in lists))[0]

    def do_rings(self):
        return [len(odd(self.rings())), *padded(self.rings(), 7)]

    def do_ring(self, a):
        if self.missing(a):
            return [-2]
        ring = [ring for ring in rounds(self.rings()) if a in ring][0]
        ring = ring[ring.index(a):] + ring[:ring.index(a)]
        return [len(ring), *padded(ring, 7)]

    def do_odds(self):
        members = sum(odd(self.rings()), ())
        return [len(members), bits(members)]

    def do_without(self, w):
        if w >= 2 ** self.n:
            return [-22]
        away = [a for a in range(self.n) if w // 2 ** a % 2]
        other = Model()
        other.do_start(self.n)
        other.lists = {a: [b for b in self.lists[a] if b not in away and a not in away] for a in range(self.n)}
        return [int(len(other.good()) > 0), len(sum(odd(self.rings(away)), ()))]

    def do_place(self, a, b):
        if self.missing(a, b):
            return [-2]
        return [self.lists[a].index(b)] if b in self.lists[a] else [-6]

    def do_friends(self, a):
        if self.missing(a):
            return [-2]
        friends = [sum(edge) - a for edge in self.edges() if a in edge]
        return [len(friends), bits(friends)]

    def do_with(self, a):
        if self.missing(a):
            return [-2]
        mate = self.mate(self.pairs, a)
        return [-6] if mate == a else [mate, self.score(self.pairs, a)]

    def do_single(self):
        alone = set(range(self.n)) - {end for pair in self.pairs for end in pair}
        return [len(alone), bits(alone)]

    def do_glad(self):
        scores = [self.score(self.pairs, a) for a in range(self.n)]
        return [sum(scores), max(scores, default=0)]

    def do_look(self, a):
        if self.missing(a):
            return [-2]
        return [len(self.lists[a]), *padded(self.lists[a], 6)]

    def do_back(self):
        if self.at == 0:
            return [-2]
        self.go(self.at - 1)
        return [self.at]

    def do_again(self):
        if self.at == len(self.line) - 1:
            return [-2]
        self.go(self.at + 1)
        return [len(self.line) - 1 - self.at]

    def do_state(self):
        return [self.n, len(self.pairs), self.at, len(self.line) - 1 - self.at]


def some_lists(chance, n):
    """Now long lists, now short ones, now such by which there may well be rings."""
    if chance.randrange(3) == 0:
        return some_ringed_lists(chance, n)
    keep = chance.choice((30, 60, 80, 100, 100))
    lists = {}
    for a in range(n):
        wished = [b for b in range(n) if b != a and chance.randrange(100) < keep]
        chance.shuffle(wished)
        lists[a] = wished
    return lists


def some_ringed_lists(chance, n):
    """Each one would rather have the next one of a ring than the one before, and rather these than some others."""
    shape = chance.choice([sizes for sizes in RING_SIZES if sum(sizes) <= n])
    order = chance.sample(range(n), n)
    lists = {**{a: [] for a in range(n)}, **ringed(*[[order.pop() for turn in range(size)] for size in shape])}
    keep = chance.choice((0, 30, 100))
    for a in range(n):
        others = [b for b in range(n) if b != a and b not in lists[a] and chance.randrange(100) < keep]
        chance.shuffle(others)
        lists[a] += others
        if len(lists[a]) > 1 and chance.randrange(12) == 0:
            lists[a].insert(0, lists[a].pop())
    return lists


def some_number(chance, n):
    return GREATEST if chance.randrange(40) == 0 else chance.randrange(n + 1)


def some_call(chance, n):
    named = [some_number(chance, n) for turn in range(2)]
    name = chance.choice(NAMES[1:] + ["swap", "pair", "pair", "break", "break", "back", "back", "again"])
    if name == "wish":
        if chance.randrange(4) == 0:
            return ("wish", named[0], chance.randrange(8), [some_number(chance, n) for turn in range(6)])
        a = min(named[0], n)
        return wish(a, some_lists(chance, n).get(a, []), some_number(chance, n))
    if name == "swap":
        return ("swap", named[0], some_number(chance, n - 1), some_number(chance, n - 1))
    if name == "nth":
        return ("nth", chance.randrange(4))
    if name == "without":
        return ("without", GREATEST if chance.randrange(20) == 0 else chance.randrange(2 ** n + 1))
    return (name, *named[:STUDENTS_NAMED.get(name, 0)])


def model_of(calls):
    model = Model()
    for call in calls:
        model.answer(call)
    return model


class BesideTheModel(unittest.TestCase):
    def test_runs_of_calls(self):
        chance = random.Random(20261116)
        met = set()
        for turn in range(250):
            n = chance.choice((1, 2, 3, 4, 4, 5, 5, 6, 6, 7, 7))
            calls = begun(n, some_lists(chance, n)) + [some_call(chance, n) for step in range(60)]
            if turn % 10 == 0:
                calls += begun(chance.choice((8, n)), {}) + [("best", 0), ("part", 0)]
            model = Model()
            for call, told in zip(calls, ask(*calls), strict=True):
                self.assertEqual(told, model.answer(call), (calls, call))
                met.add((call[0], min(told[0], 0)))
        self.assertEqual(sorted(met), sorted([(name, answer) for name in NAMES
                                              for answer in (0, *REFUSALS.get(name, ()))]))

    def test_long_runs_of_changes(self):
        chance = random.Random(20)
        most = 0
        for turn in range(30):
            n = chance.choice((3, 5, 7))
            calls = begun(n, some_lists(chance, n))
            while len(calls) < 500:
                drawn = [some_call(chance, n) for step in range(chance.randrange(200))]
                calls += [call for call in drawn if call[0] in CHANGES]
                calls += [chance.choice(("back", "again"))] * chance.randrange(25) + ["state"]
            calls += AS_THEY_ARE
            model = Model()
            for call, told in zip(calls, ask(*calls), strict=True):
                self.assertEqual(told, model.answer(call), (calls, call))
                most = max(most, model.at)
        self.assertEqual(most, 20)


class WhatHolds(unittest.TestCase):
    def drawn(self, seed, many):
        """Calls by which there are students with drawn lists, and a model of these."""
        chance = random.Random(seed)
        for turn in range(many):
            n = chance.choice((3, 4, 5, 6, 6, 7, 7, 7))
            calls = begun(n, chance.choice((some_lists, some_ringed_lists))(chance, n))
            yield calls, model_of(calls)

    def good_rows(self, calls):
        many = last(*calls, "good")[0]
        self.assertEqual(last(*calls, ("nth", many)), [-2])
        return [last(*calls, ("nth", k)) for k in range(many)]

    def told_rings(self, calls, n):
        """Who's next to each, as ho_rings tells it, beside what the other calls tell of rings."""
        told = ask(*calls, "rings", "odds", *[("ring", a) for a in range(n)])[len(calls):]
        after = tuple(b - 1 for b in told[0][1:n + 1])
        self.assertEqual(told[0], [len(odd(after)), *padded(after, 7)])
        self.assertEqual(told[1], [len(sum(odd(after), ())), bits(sum(odd(after), ()))])
        for ring in rounds(after):
            for at, a in enumerate(ring):
                self.assertEqual(told[2 + a], [len(ring), *padded(ring[at:] + ring[:at], 7)])
        return after

    def test_all_that_hold_are_told_and_hold(self):
        several = 0
        for calls, model in self.drawn(7, 300):
            rows = self.good_rows(calls)
            several += len(rows) > 1
            self.assertEqual(rows, [[len(pairs), *model.row(pairs)] for pairs in model.good()])
            self.assertEqual(rows, sorted(rows, key=lambda row: row[1:]))
            for row in rows:
                pairs = [("pair", a, b - 1) for a, b in enumerate(row[1:]) if b > a]
                self.assertEqual(last(*calls, *pairs, "holds"), [1])
        self.assertGreater(several, 10)

    def test_alone_in_one_alone_in_all(self):
        for calls, model in self.drawn(8, 300):
            alone = {tuple(b == 0 for b in row[1:model.n + 1]) for row in self.good_rows(calls)}
            self.assertLessEqual(len(alone), 1)
            for who in alone:
                members = [a for a in range(model.n) if who[a]]
                self.assertEqual(last(*calls, "alone"), [len(members), bits(members)])

    def test_at_least_half(self):
        for calls, model in self.drawn(9, 300):
            most = max(len(pairs) for pairs in matchings(model.edges()))
            for row in self.good_rows(calls):
                self.assertGreaterEqual(2 * row[0], most)

    def test_there_are_rings_that_hold_and_the_first_are_told(self):
        several = 0
        for calls, model in self.drawn(10, 150):
            holding = rings_that_hold(tuple(tuple(model.lists[a]) for a in range(model.n)))
            several += len(holding) > 1
            self.assertEqual(self.told_rings(calls, model.n), holding[0])
        self.assertGreater(several, 10)

    def test_the_same_odd_rings_and_the_same_alone(self):
        odd_and_several = 0
        for calls, model in self.drawn(11, 250):
            told = self.told_rings(calls, model.n)
            holding = rings_that_hold(tuple(tuple(model.lists[a]) for a in range(model.n)))
            odd_and_several += len(holding) > 1 and len(odd(told)) > 0
            for after in holding:
                self.assertEqual(odd(after), odd(told))
                self.assertEqual([a == b for a, b in enumerate(after)], [a == b for a, b in enumerate(told)])
            for row in self.good_rows(calls):
                self.assertEqual([b == 0 for b in row[1:model.n + 1]], [a == b for a, b in enumerate(told)])
        self.assertGreater(odd_and_several, 2)

    def test_just_when_no_odd_ring_is_in_the_way(self):
        met = set()
        for calls, model in self.drawn(12, 400):
            told = odd(self.told_rings(calls, model.n))
            met.add(tuple(sorted(len(ring) for ring in told)))
            self.assertEqual(last(*calls, "good")[0] > 0, told == [])
            self.assertEqual(last(*calls, ("without", 0)), [int(told == []), len(sum(told, ()))])
            for away in product(*told):
                self.assertEqual(last(*calls, ("without", bits(away))), [1, 0])
        self.assertEqual(met, {(), (3,), (5,), (7,), (3, 3)})

    def test_all_can_be_taken_back_and_done_again(self):
        chance = random.Random(13)
        for turn in range(40):
            n = chance.choice((3, 5, 7))
            calls = begun(n, some_lists(chance, n))
            seen = [ask(*calls, *AS_THEY_ARE[1:])[len(calls):]]
            while len(seen) < 20:
                call = some_call(chance, n)
                if call[0] in CHANGES and last(*calls, call)[0] >= 0:
                    calls.append(call)
                    seen.append(ask(*calls, *AS_THEY_ARE[1:])[len(calls):])
            steps = ["back"] * 19 + ["again"] * 19
            for many in range(len(steps) + 1):
                ahead = calls + steps[:many]
                self.assertEqual(ask(*ahead, *AS_THEY_ARE[1:])[len(ahead):], seen[abs(19 - many)])


if __name__ == "__main__":
    unittest.main()
