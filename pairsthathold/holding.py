"""The calls that tell what holds: point 4. They change nothing.

Each answers a list: a refusal alone, or the number that's answered and behind it what's told as out.
"""

from pairsthathold.pairings import breakers
from pairsthathold.pairings import good_pairings
from pairsthathold.pairings import holds
from pairsthathold.pairings import place
from pairsthathold.pairings import told_pairing
from pairsthathold.pairings import would_break
from pairsthathold.refusals import NOT_SO
from pairsthathold.refusals import NOT_THERE


def ho_holds(students):
    if holds(students.lists, students.mates):
        return [1]
    return [0]


def ho_breakers(students):
    twos = breakers(students.lists, students.mates)
    if len(twos) == 0:
        return [0, 0, 0]
    return [len(twos), twos[0][0], twos[0][1]]


def ho_would(students, a, b):
    if not students.has(a) or not students.has(b):
        return [NOT_THERE]
    if would_break(students.lists, students.mates, a, b):
        return [1]
    return [0]


def ho_good(students):
    return [len(good_pairings(students.lists))]


def ho_nth(students, k):
    good = good_pairings(students.lists)
    if k >= len(good):
        return [NOT_THERE]
    return told_pairing(good[k])


def whom_by_place(students, a, at):
    """Whom a has in those that hold, in the order in which a would rather: the one that stands there."""
    if not students.has(a):
        return [NOT_THERE]
    whom = [mates[a] for mates in good_pairings(students.lists)]
    if len(whom) == 0:
        return [NOT_SO]
    return [sorted(whom, key=lambda b: place(students.lists, a, b))[at]]


def ho_best(students, a):
    return whom_by_place(students, a, 0)


def ho_worst(students, a):
    return whom_by_place(students, a, -1)


def ho_alone(students):
    good = good_pairings(students.lists)
    if len(good) == 0:
        return [NOT_SO]
    alone = [a for a in range(len(good[0])) if good[0][a] == a]
    return [len(alone), sum([1 << a for a in alone])]
