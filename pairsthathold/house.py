"""The calls on one object, read from one list of whole numbers, and what they answer."""

from pairsthathold.changing import ho_all
from pairsthathold.changing import ho_break
from pairsthathold.changing import ho_pair
from pairsthathold.changing import ho_part
from pairsthathold.changing import ho_start
from pairsthathold.changing import ho_swap
from pairsthathold.changing import ho_wish
from pairsthathold.going_back import ho_again
from pairsthathold.going_back import ho_back
from pairsthathold.going_back import ho_state
from pairsthathold.holding import ho_alone
from pairsthathold.holding import ho_best
from pairsthathold.holding import ho_breakers
from pairsthathold.holding import ho_ever
from pairsthathold.holding import ho_fairest
from pairsthathold.holding import ho_good
from pairsthathold.holding import ho_holds
from pairsthathold.holding import ho_nth
from pairsthathold.holding import ho_worst
from pairsthathold.holding import ho_would
from pairsthathold.looking import ho_friends
from pairsthathold.looking import ho_glad
from pairsthathold.looking import ho_look
from pairsthathold.looking import ho_place
from pairsthathold.looking import ho_single
from pairsthathold.looking import ho_with
from pairsthathold.ringing import ho_odds
from pairsthathold.ringing import ho_ring
from pairsthathold.ringing import ho_rings
from pairsthathold.ringing import ho_without
from pairsthathold.students import Students

# How many whole numbers stand behind each call's number, ahead of a row.
PLAIN_NUMBERS = (1, 2, 3, 2, 1, 2, 0, 0, 0, 2, 0, 1, 1, 1, 0, 2, 0, 1, 0, 1, 2, 1, 1, 0, 0, 0, 1, 0, 0, 0)
WISH = 1
LAST_CHANGING = 6
LAST_HOLDING = 15
LAST_RINGING = 19
LAST_LOOKING = 26


def call_end(calls, at):
    """Where the call that begins there ends; ho_wish alone has a row, with how many numbers it has ahead of it."""
    end = at + 1 + PLAIN_NUMBERS[calls[at]]
    if calls[at] == WISH:
        return end + 1 + calls[end]
    return end


def answer_changing(students, call, given):
    if call == 0:
        return ho_start(students, given[0])
    if call == 1:
        return ho_wish(students, given[0], given[1], given[3:])
    if call == 2:
        return ho_swap(students, given[0], given[1], given[2])
    if call == 3:
        return ho_pair(students, given[0], given[1])
    if call == 4:
        return ho_part(students, given[0])
    if call == 5:
        return ho_break(students, given[0], given[1])
    return ho_all(students)


def answer_holding(students, call, given):
    if call == 7:
        return ho_holds(students)
    if call == 8:
        return ho_breakers(students)
    if call == 9:
        return ho_would(students, given[0], given[1])
    if call == 10:
        return ho_good(students)
    if call == 11:
        return ho_nth(students, given[0])
    if call == 12:
        return ho_best(students, given[0])
    if call == 13:
        return ho_worst(students, given[0])
    if call == 14:
        return ho_alone(students)
    return ho_ever(students, given[0], given[1])


def answer_ringing(students, call, given):
    if call == 16:
        return ho_rings(students)
    if call == 17:
        return ho_ring(students, given[0])
    if call == 18:
        return ho_odds(students)
    return ho_without(students, given[0])


def answer_looking(students, call, given):
    if call == 20:
        return ho_place(students, given[0], given[1])
    if call == 21:
        return ho_friends(students, given[0])
    if call == 22:
        return ho_with(students, given[0])
    if call == 23:
        return ho_single(students)
    if call == 24:
        return ho_glad(students)
    if call == 25:
        return ho_fairest(students)
    return ho_look(students, given[0])


def answer_going_back(students, call):
    if call == 27:
        return ho_back(students)
    if call == 28:
        return ho_again(students)
    return ho_state(students)


def answer(students, call, given):
    if call <= LAST_CHANGING:
        return answer_changing(students, call, given)
    if call <= LAST_HOLDING:
        return answer_holding(students, call, given)
    if call <= LAST_RINGING:
        return answer_ringing(students, call, given)
    if call <= LAST_LOOKING:
        return answer_looking(students, call, given)
    return answer_going_back(students, call)


def answers(calls):
    """What the calls answer, on a new object: for each call how many numbers, then these."""
    students = Students()
    told = []
    at = 0
    while at < len(calls):
        end = call_end(calls, at)
        numbers = answer(students, calls[at], calls[at + 1:end])
        told.append(len(numbers))
        told.extend(numbers)
        at = end
    return told
