"""The calls on one object, read from one list of whole numbers, and what they answer."""

from pairsthathold.changing import ho_all
from pairsthathold.changing import ho_break
from pairsthathold.changing import ho_pair
from pairsthathold.changing import ho_part
from pairsthathold.changing import ho_start
from pairsthathold.changing import ho_swap
from pairsthathold.changing import ho_wish
from pairsthathold.holding import ho_alone
from pairsthathold.holding import ho_best
from pairsthathold.holding import ho_breakers
from pairsthathold.holding import ho_good
from pairsthathold.holding import ho_holds
from pairsthathold.holding import ho_nth
from pairsthathold.holding import ho_worst
from pairsthathold.holding import ho_would
from pairsthathold.students import Students

# How many whole numbers stand behind each call's number, ahead of a row.
PLAIN_NUMBERS = (1, 2, 3, 2, 1, 2, 0, 0, 0, 2, 0, 1, 1, 1, 0)
WISH = 1
LAST_CHANGING = 6


def call_end(calls, at):
    """Where the call that begins there ends; ho_wish alone has a row, with how many numbers it has ahead of it."""
    end = at + 1 + PLAIN_NUMBERS[calls[at]]
    if calls[at] == WISH:
        return end + 1 + calls[end]
    return end


def answer_changing(students, call, given):
    if call == 0:
        return ho_start(students, given[0])
    if call == 1:
        return ho_wish(students, given[0], given[1], given[3:])
    if call == 2:
        return ho_swap(students, given[0], given[1], given[2])
    if call == 3:
        return ho_pair(students, given[0], given[1])
    if call == 4:
        return ho_part(students, given[0])
    if call == 5:
        return ho_break(students, given[0], given[1])
    return ho_all(students)


def answer_holding(students, call, given):
    if call == 7:
        return ho_holds(students)
    if call == 8:
        return ho_breakers(students)
    if call == 9:
        return ho_would(students, given[0], given[1])
    if call == 10:
        return ho_good(students)
    if call == 11:
        return ho_nth(students, given[0])
    if call == 12:
        return ho_best(students, given[0])
    if call == 13:
        return ho_worst(students, given[0])
    return ho_alone(students)


def answer(students, call, given):
    if call <= LAST_CHANGING:
        return answer_changing(students, call, given)
    return answer_holding(students, call, given)


def answers(calls):
    """What the calls answer, on a new object: for each call how many numbers, then these."""
    students = Students()
    told = []
    at = 0
    while at < len(calls):
        end = call_end(calls, at)
        numbers = answer(students, calls[at], calls[at + 1:end])
        told.append(len(numbers))
        told.extend(numbers)
        at = end
    return told
