"""Pairings: who would share, who would break one, which ones hold.

A pairing is a tuple that tells whom each student has; who has themselves is alone.
"""

from pairsthathold.students import MOST_STUDENTS


def would_share(lists, a, b):
    return b in lists[a] and a in lists[b]


def place(lists, a, b):
    """The place of b on a's list; being alone, where b is a, stands behind the last."""
    if a == b:
        return len(lists[a])
    return lists[a].index(b)


def places_had(lists, mates):
    """The place of whom each one has on their list."""
    return [place(lists, a, mates[a]) for a in range(len(lists))]


def greatest_of(places):
    """The greatest of these places; 0 of nobody's."""
    return max(places, default=0)


def would_leave(lists, mates, a, b):
    """Whether a, on whose list b is, would rather have b than be as they are."""
    return place(lists, a, b) < place(lists, a, mates[a])


def would_break(lists, mates, a, b):
    # Two who are paired with each other never would: neither would rather have the one they have.
    if not would_share(lists, a, b):
        return False
    return would_leave(lists, mates, a, b) and would_leave(lists, mates, b, a)


def breakers(lists, mates):
    """All twos who would break it, the lesser one first, by the lesser one, then by the other."""
    twos = []
    for a in range(len(lists)):
        for b in range(a + 1, len(lists)):
            if would_break(lists, mates, a, b):
                twos.append((a, b))
    return twos


def holds(lists, mates):
    for a in range(len(lists)):
        for b in range(a + 1, len(lists)):
            if would_break(lists, mates, a, b):
                return False
    return True


def parted(mates, a):
    """The pairing in which a, and whom a had, are alone."""
    after = list(mates)
    after[mates[a]] = mates[a]
    after[a] = a
    return tuple(after)


def paired(mates, a, b):
    """The pairing in which a has b, and whom either had is alone."""
    after = list(parted(parted(mates, a), b))
    after[a] = b
    after[b] = a
    return tuple(after)


def with_choices(lists, pairings, a):
    """Behind each pairing those in which a, if alone in it, has one of the greater ones who are alone too."""
    longer = []
    for mates in pairings:
        longer.append(mates)
        for b in range(a + 1, len(lists)):
            if mates[a] == a and mates[b] == b and would_share(lists, a, b):
                longer.append(paired(mates, a, b))
    return longer


def all_pairings(lists):
    """All pairings, in order.

    Students choose by their number, and each choice is laid out with being alone first, then the lesser one first:
    so the least student for whom two pairings differ decides which comes first.
    """
    pairings = [tuple(range(len(lists)))]
    for a in range(len(lists)):
        pairings = with_choices(lists, pairings, a)
    return pairings


def good_pairings(lists):
    """All pairings that hold, in order."""
    return [mates for mates in all_pairings(lists) if holds(lists, mates)]


def alone_ones(mates):
    return [a for a in range(len(mates)) if mates[a] == a]


def pair_count(mates):
    return len([a for a in range(len(mates)) if a < mates[a]])


def told_pairing(mates):
    """How many pairs; then of each student, there or not, one more than whom they have, or 0."""
    row = [0] * MOST_STUDENTS
    for a in range(len(mates)):
        if mates[a] != a:
            row[a] = mates[a] + 1
    return [pair_count(mates)] + row
