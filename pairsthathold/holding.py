"""The calls that tell what holds: point 4. They change nothing.

Each answers a list: a refusal alone, or the number that's answered and behind it what's told as out.
"""

from pairsthathold.pairings import alone_ones
from pairsthathold.pairings import breakers
from pairsthathold.pairings import good_pairings
from pairsthathold.pairings import greatest_of
from pairsthathold.pairings import holds
from pairsthathold.pairings import place
from pairsthathold.pairings import places_had
from pairsthathold.pairings import told_pairing
from pairsthathold.pairings import would_break
from pairsthathold.refusals import NOT_SO
from pairsthathold.refusals import NOT_THERE
from pairsthathold.refusals import WRONG
from pairsthathold.telling import told_set


def ho_holds(students):
    if holds(students.lists, students.mates):
        return [1]
    return [0]


def ho_breakers(students):
    twos = breakers(students.lists, students.mates)
    if len(twos) == 0:
        return [0, 0, 0]
    return [len(twos), twos[0][0], twos[0][1]]


def ho_would(students, a, b):
    if not students.has(a) or not students.has(b):
        return [NOT_THERE]
    if would_break(students.lists, students.mates, a, b):
        return [1]
    return [0]


def ho_good(students):
    return [len(good_pairings(students.lists))]


def ho_nth(students, k):
    good = good_pairings(students.lists)
    if k >= len(good):
        return [NOT_THERE]
    return told_pairing(good[k])


def whom_by_place(students, a, at):
    """Whom a has in those that hold, in the order in which a would rather: the one that stands there."""
    if not students.has(a):
        return [NOT_THERE]
    whom = [mates[a] for mates in good_pairings(students.lists)]
    if len(whom) == 0:
        return [NOT_SO]
    return [sorted(whom, key=lambda b: place(students.lists, a, b))[at]]


def ho_best(students, a):
    return whom_by_place(students, a, 0)


def ho_worst(students, a):
    return whom_by_place(students, a, -1)


def ho_alone(students):
    good = good_pairings(students.lists)
    if len(good) == 0:
        return [NOT_SO]
    return told_set(alone_ones(good[0]))


def ho_ever(students, a, b):
    if not students.has(a) or not students.has(b):
        return [NOT_THERE]
    if a == b:
        return [WRONG]
    return [len([mates for mates in good_pairings(students.lists) if mates[a] == b])]


def how_fair(lists, mates):
    """Of two pairings the fairer one has the lesser of these."""
    places = places_had(lists, mates)
    return (greatest_of(places), sum(places))


def ho_fairest(students):
    good = good_pairings(students.lists)
    if len(good) == 0:
        return [NOT_SO]
    # Of like ones min takes the first, and they stand in order.
    fairest = min(good, key=lambda mates: how_fair(students.lists, mates))
    return list(how_fair(students.lists, fairest)) + told_pairing(fairest)[1:]
