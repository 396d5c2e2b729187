"""Paths, which order all signs ever written.

A path is a tuple of steps (clock, hand, index): the time of a put and the
index in its run. The last step is that of the sign itself, the ones before it
are the path of the sign after which its run was written.
"""


def step_of(deed, index):
    """The step of the character at this index of the run of a put."""
    return (deed[2], deed[0], index)


def comes_before(one, other):
    """Whether path one comes before path other."""
    return rank_of(one) < rank_of(other)


def rank_of(path):
    """A tuple that is less than that of another path if the path comes before it."""
    # The later put comes first, but the smaller index of the same put.
    return tuple([(-clock, -hand, index) for clock, hand, index in path])
