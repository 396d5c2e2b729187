"""Versions, and what a deed knows.

A version is a tuple with, for each hand, how many of its deeds are included.
A deed is a tuple (hand, number, clock, seen, act).
"""


def includes(one, other):
    """Whether version one includes version other."""
    return all([mine >= theirs for mine, theirs in zip(one, other)])


def joined(one, other):
    """The least version that includes both."""
    return tuple([max(mine, theirs) for mine, theirs in zip(one, other)])


def knows(deed, other):
    """Whether what the deed has seen includes the other deed."""
    seen = deed[3]
    hand, number = other[0], other[1]
    return number < seen[hand]


def time_of(deed):
    """The tuple (clock, hand): of two deeds the later one has the greater."""
    return (deed[2], deed[0])


def with_itself(deed):
    """The version that the deed has seen, together with the deed."""
    hand, number, seen = deed[0], deed[1], deed[3]
    return seen[:hand] + (number + 1,) + seen[hand + 1:]
