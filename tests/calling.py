"""Writes calls as numbers and takes the answers apart, for the tests."""

import unittest

from pairsthathold.house import answers

GREATEST = 4294967295
NUMBERS = {"start": 0, "wish": 1, "swap": 2, "pair": 3, "part": 4, "break": 5, "all": 6, "holds": 7, "breakers": 8,
           "would": 9, "good": 10, "nth": 11, "best": 12, "worst": 13, "alone": 14}

# Calls that change nothing, and tell what can be seen of the lists and the pairs of up to seven students.
LOOKS = ["holds", "breakers", "good", ("nth", 0), ("nth", 1), "alone"]
LOOKS += [("would", a, b) for a in range(7) for b in range(7)]
LOOKS += [("best", a) for a in range(7)] + [("worst", a) for a in range(7)]

# Three of whom each would rather have the next one than the one before.
ODD_RING = {0: [1, 2], 1: [2, 0], 2: [0, 1]}
# Likewise four, of whom two pairings hold: 01 23, and 03 12.
EVEN_RING = {0: [1, 3], 1: [2, 0], 2: [3, 1], 3: [0, 2]}


def written(call):
    """A call such as ("pair", 0, 1) or "good", as numbers; a list within it is a row."""
    if isinstance(call, str):
        call = (call,)
    numbers = [NUMBERS[call[0]]]
    for given in call[1:]:
        if isinstance(given, list):
            numbers += [len(given)] + given
        else:
            numbers.append(given)
    return numbers


def flat(calls):
    return [number for call in calls for number in written(call)]


def apart(told):
    """The answers, each a list of its own."""
    found = []
    at = 0
    while at < len(told):
        found.append(told[at + 1:at + 1 + told[at]])
        at += 1 + told[at]
    return found


def ask(*calls):
    return apart(answers(flat(calls)))


def last(*calls):
    return ask(*calls)[-1]


def wish(a, wished, rest=0):
    return ("wish", a, len(wished), list(wished) + [rest] * (6 - len(wished)))


def begun(n, lists):
    """The calls by which n students have these lists."""
    return [("start", n)] + [wish(a, wished) for a, wished in lists.items()]


def everyone(n):
    """Lists by which each one would share with each other one, the lesser rather."""
    return {a: [b for b in range(n) if b != a] for a in range(n)}


class Refusals(unittest.TestCase):
    def refused(self, calls, call, answer):
        """It answers this, and all is as it was."""
        looks = LOOKS + [("part", a) for a in range(7)] + [wish(a, []) for a in range(7)]
        told = ask(*calls, call, *looks)
        self.assertEqual(told[len(calls)], [answer])
        self.assertEqual(told[len(calls) + 1:], ask(*calls, *looks)[len(calls):])
