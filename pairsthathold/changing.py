"""The calls that begin anew or change something: points 1 to 3.

Each answers a list: a refusal alone, or the number that's answered and behind it what's told as out.
"""

from pairsthathold.pairings import breakers
from pairsthathold.pairings import good_pairings
from pairsthathold.pairings import pair_count
from pairsthathold.pairings import paired
from pairsthathold.pairings import parted
from pairsthathold.pairings import told_pairing
from pairsthathold.pairings import would_break
from pairsthathold.pairings import would_share
from pairsthathold.refusals import ALONE
from pairsthathold.refusals import NOT_SO
from pairsthathold.refusals import NOT_THERE
from pairsthathold.refusals import PAIRED
from pairsthathold.refusals import WRONG
from pairsthathold.students import MOST_STUDENTS
from pairsthathold.students import MOST_WISHES


def ho_start(students, n):
    if n > MOST_STUDENTS:
        return [WRONG]
    students.begin(n)
    return [0]


def are_others(students, a, wished):
    """Whether those wished for are others than a who are there, each once."""
    for b in wished:
        if b == a or not students.has(b) or wished.count(b) > 1:
            return False
    return True


def with_list(lists, a, wished):
    after = list(lists)
    after[a] = tuple(wished)
    return tuple(after)


def ho_wish(students, a, n, row):
    if not students.has(a):
        return [NOT_THERE]
    if n > MOST_WISHES or not are_others(students, a, row[:n]):
        return [WRONG]
    before = len(students.lists[a])
    lists = with_list(students.lists, a, row[:n])
    mates = students.mates
    # Only a's list is another one, so no pair but a's can come apart; parting one who's alone leaves all as it is.
    if not would_share(lists, a, mates[a]):
        mates = parted(mates, a)
    students.change(lists, mates)
    return [before, pair_count(mates)]


def ho_swap(students, a, i, j):
    if not students.has(a):
        return [NOT_THERE]
    wished = list(students.lists[a])
    if i >= len(wished) or j >= len(wished) or i == j:
        return [WRONG]
    at_i = wished[i]
    at_j = wished[j]
    wished[i] = at_j
    wished[j] = at_i
    students.change(with_list(students.lists, a, wished), students.mates)
    return [at_i, at_j]


def ho_pair(students, a, b):
    if not students.has(a) or not students.has(b):
        return [NOT_THERE]
    if not would_share(students.lists, a, b):
        return [NOT_SO]
    if students.mates[a] != a or students.mates[b] != b:
        return [PAIRED]
    mates = paired(students.mates, a, b)
    students.change(students.lists, mates)
    return [pair_count(mates)]


def ho_part(students, a):
    if not students.has(a):
        return [NOT_THERE]
    had = students.mates[a]
    if had == a:
        return [ALONE]
    students.change(students.lists, parted(students.mates, a))
    return [had]


def ho_break(students, a, b):
    if not students.has(a) or not students.has(b):
        return [NOT_THERE]
    if not would_break(students.lists, students.mates, a, b):
        return [NOT_SO]
    mates = paired(students.mates, a, b)
    students.change(students.lists, mates)
    return [pair_count(mates), len(breakers(students.lists, mates))]


def ho_all(students):
    good = good_pairings(students.lists)
    if len(good) == 0:
        return [NOT_SO]
    students.change(students.lists, good[0])
    return told_pairing(good[0])
