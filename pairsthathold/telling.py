"""How sets and rows of students are told in an answer."""


def told_set(members):
    """How many they are, then the set as bits."""
    return [len(members), sum([1 << a for a in members])]


def told_row(members, length):
    """Of each, in order, one more than the number; 0 behind the last."""
    return [a + 1 for a in members] + [0] * (length - len(members))
