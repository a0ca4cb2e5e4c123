"""The calls that tell of rings: point 5. They change nothing.

Each answers a list: a refusal alone, or the number that's answered and behind it what's told as out.
"""

from pairsthathold.pairings import good_pairings
from pairsthathold.refusals import NOT_THERE
from pairsthathold.refusals import WRONG
from pairsthathold.rings import first_rings
from pairsthathold.rings import in_odd_rings
from pairsthathold.rings import odd_ring_count
from pairsthathold.rings import ring_from
from pairsthathold.students import MOST_STUDENTS
from pairsthathold.telling import told_row
from pairsthathold.telling import told_set


def ho_rings(students):
    rings = first_rings(students.lists)
    return [odd_ring_count(rings)] + told_row(rings, MOST_STUDENTS)


def ho_ring(students, a):
    if not students.has(a):
        return [NOT_THERE]
    ring = ring_from(first_rings(students.lists), a)
    return [len(ring)] + told_row(ring, MOST_STUDENTS)


def ho_odds(students):
    return told_set(in_odd_rings(first_rings(students.lists)))


def is_in(w, a):
    return (w >> a) % 2 == 1


def lists_without(lists, w):
    """The lists if those of the set w were away: on nobody's list, with nobody on theirs."""
    left = []
    for a in range(len(lists)):
        if is_in(w, a):
            left.append(())
        else:
            left.append(tuple([b for b in lists[a] if not is_in(w, b)]))
    return tuple(left)


def ho_without(students, w):
    if w >> len(students.lists) > 0:
        return [WRONG]
    lists = lists_without(students.lists, w)
    odd = len(in_odd_rings(first_rings(lists)))
    if len(good_pairings(lists)) == 0:
        return [0, odd]
    return [1, odd]
