"""Writes calls as numbers and takes the answers apart, for the tests."""

import unittest

from pairsthathold.house import answers

GREATEST = 4294967295
NAMES = """start wish swap pair part break all holds breakers would good nth best worst alone ever rings ring odds
    without place friends with single glad fairest look back again state""".split()
NUMBERS = {name: number for number, name in enumerate(NAMES)}

# What is told of the lists and the pairs of up to seven students as they are, and of the changes.
AS_THEY_ARE = ["state", "single", "glad"] + [(call, a) for call in ("look", "with") for a in range(7)]
# Calls that change nothing, and tell all that can be seen of up to seven students.
LOOKS = AS_THEY_ARE + ["holds", "breakers", "good", ("nth", 0), ("nth", 1), "alone", "rings", "odds", "fairest"]
LOOKS += [("would", a, b) for a in range(7) for b in range(7)]
LOOKS += [(call, a) for call in ("best", "worst", "ring", "friends") for a in range(7)]
# All that can be taken back, and be done again, with how it is then.
BACK_AND_AGAIN = ["back", *AS_THEY_ARE] * 21 + ["again", *AS_THEY_ARE] * 21

# Three of whom each would rather have the next one than the one before.
ODD_RING = {0: [1, 2], 1: [2, 0], 2: [0, 1]}
# Likewise four, of whom two pairings hold: 01 23, and 03 12.
EVEN_RING = {0: [1, 3], 1: [2, 0], 2: [3, 1], 3: [0, 2]}
# Each of 0, 1, 2 would rather have one of 3, 4, 5 in turn, and these the other way round: three hold.
THREE_HOLD = {0: [3, 4, 5], 1: [4, 5, 3], 2: [5, 3, 4], 3: [1, 2, 0], 4: [2, 0, 1], 5: [0, 1, 2]}


def written(call):
    """A call such as ("pair", 0, 1) or "good", as numbers; a list within it is a row."""
    if isinstance(call, str):
        call = (call,)
    numbers = [NUMBERS[call[0]]]
    for given in call[1:]:
        if isinstance(given, list):
            numbers += [len(given)] + given
        else:
            numbers.append(given)
    return numbers


def flat(calls):
    return [number for call in calls for number in written(call)]


def apart(told):
    """The answers, each a list of its own."""
    found = []
    at = 0
    while at < len(told):
        found.append(told[at + 1:at + 1 + told[at]])
        at += 1 + told[at]
    return found


def ask(*calls):
    return apart(answers(flat(calls)))


def last(*calls):
    return ask(*calls)[-1]


def wish(a, wished, rest=0):
    return ("wish", a, len(wished), list(wished) + [rest] * (6 - len(wished)))


def begun(n, lists):
    """The calls by which n students have these lists."""
    return [("start", n)] + [wish(a, wished) for a, wished in lists.items()]


def everyone(n):
    """Lists by which each one would share with each other one, the lesser rather."""
    return {a: [b for b in range(n) if b != a] for a in range(n)}


def ringed(*rings):
    """Lists by which these are rings: each one would rather have the next than the one before, and nobody else."""
    lists = {}
    for ring in rings:
        for at, a in enumerate(ring):
            lists[a] = [ring[(at + 1) % len(ring)], ring[at - 1]][:len(ring) - 1]
    return lists


class Refusals(unittest.TestCase):
    def refused_here(self, calls, call, answer):
        """It answers this, and all is as it was."""
        looks = LOOKS + ["again"] + BACK_AND_AGAIN
        told = ask(*calls, call, *looks)
        self.assertEqual(told[len(calls)], [answer])
        self.assertEqual(told[len(calls) + 1:], ask(*calls, *looks)[len(calls):])

    def refused(self, calls, call, answer):
        """Likewise, and so too where there's a change that can be done again."""
        self.refused_here(calls, call, answer)
        self.refused_here(calls + [wish(0, []), "back"], call, answer)
