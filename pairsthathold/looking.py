"""The calls that tell of the lists and pairs as they are: point 6. They change nothing.

Each answers a list: a refusal alone, or the number that's answered and behind it what's told as out.
"""

from pairsthathold.pairings import alone_ones
from pairsthathold.pairings import greatest_of
from pairsthathold.pairings import place
from pairsthathold.pairings import places_had
from pairsthathold.pairings import would_share
from pairsthathold.refusals import ALONE
from pairsthathold.refusals import NOT_ON_LIST
from pairsthathold.refusals import NOT_THERE
from pairsthathold.students import MOST_WISHES
from pairsthathold.telling import told_row
from pairsthathold.telling import told_set


def ho_place(students, a, b):
    if not students.has(a) or not students.has(b):
        return [NOT_THERE]
    if b not in students.lists[a]:
        return [NOT_ON_LIST]
    return [place(students.lists, a, b)]


def ho_friends(students, a):
    if not students.has(a):
        return [NOT_THERE]
    return told_set([b for b in students.lists[a] if would_share(students.lists, a, b)])


def ho_with(students, a):
    if not students.has(a):
        return [NOT_THERE]
    mate = students.mates[a]
    if mate == a:
        return [ALONE]
    return [mate, place(students.lists, a, mate)]


def ho_single(students):
    return told_set(alone_ones(students.mates))


def ho_glad(students):
    places = places_had(students.lists, students.mates)
    return [sum(places), greatest_of(places)]


def ho_look(students, a):
    if not students.has(a):
        return [NOT_THERE]
    wished = students.lists[a]
    return [len(wished)] + told_row(wished, MOST_WISHES)
