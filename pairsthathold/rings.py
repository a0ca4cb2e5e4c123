"""Rings: who is next to whom, when that holds, and which are the first that do.

Rings are a tuple that tells who's next to each student; who has themselves next to them is alone. They are laid out
by their students' numbers: a shorter tuple is how rings may begin.
"""

from pairsthathold.pairings import place
from pairsthathold.pairings import would_break
from pairsthathold.pairings import would_share


def known_before(n, rings):
    """Who's before each of the n students; None where these beginnings of rings don't tell it yet."""
    before = [None] * n
    for a in range(len(rings)):
        before[rings[a]] = a
    return before


def in_order(lists, rings, before, a):
    """Whether a would rather have who's next than who's before them, or has one for both, if both are known."""
    if a >= len(rings) or before[a] is None:
        return True
    return place(lists, a, rings[a]) <= place(lists, a, before[a])


def would_leave_before(lists, before, b):
    """Whether b and another one, for whom it's known too, would both rather have each other than who's before them."""
    for c in range(len(lists)):
        # That's what it is to break a pairing in which each one has who's before them.
        if before[c] is not None and would_break(lists, before, b, c):
            return True
    return False


def may_hold(lists, rings):
    """Whether rings may hold that begin so, if those may that begin with all but the last of these.

    Only what the last one newly tells is looked at, and the search leaves at once what can't hold: there are too many
    rings to lay them all out at each call.
    """
    a = len(rings) - 1
    b = rings[a]
    if b in rings[:a] or (a != b and not would_share(lists, a, b)):
        return False
    before = known_before(len(lists), rings)
    if not in_order(lists, rings, before, a) or not in_order(lists, rings, before, b):
        return False
    return not would_leave_before(lists, before, b)


def first_beginning(lists, rings):
    """The first rings that hold and begin so, None if there are none; at most as many calls deep as students."""
    if len(rings) == len(lists):
        return rings
    for b in range(len(lists)):
        longer = rings + (b,)
        if may_hold(lists, longer):
            found = first_beginning(lists, longer)
            if found is not None:
                return found
    return None


def first_rings(lists):
    """The rings told: there always are some that hold."""
    return first_beginning(lists, ())


def ring_from(rings, a):
    ring = [a]
    while rings[ring[-1]] != a:
        ring.append(rings[ring[-1]])
    return ring


def in_odd_ring(rings, a):
    many = len(ring_from(rings, a))
    return many >= 3 and many % 2 == 1


def in_odd_rings(rings):
    return [a for a in range(len(rings)) if in_odd_ring(rings, a)]


def odd_ring_count(rings):
    """Each odd ring is counted where its least one stands."""
    return len([a for a in in_odd_rings(rings) if a == min(ring_from(rings, a))])
