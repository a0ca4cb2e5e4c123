"""The calls that take changes back, do them again, and tell how many there are: point 7.

Each answers a list: a refusal alone, or the number that's answered and behind it what's told as out.
"""

from pairsthathold.pairings import pair_count
from pairsthathold.refusals import NOT_THERE


def ho_back(students):
    if len(students.past) == 0:
        return [NOT_THERE]
    students.take_back()
    return [len(students.past)]


def ho_again(students):
    if len(students.undone) == 0:
        return [NOT_THERE]
    students.do_again()
    return [len(students.undone)]


def ho_state(students):
    return [len(students.lists), pair_count(students.mates), len(students.past), len(students.undone)]
