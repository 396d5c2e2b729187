"""The six acts: which are writings, their signs, and their bounds.

An act is one of ("put", after, text), ("cut", signs),
("mark", first, last, value), ("toggle", number), ("note",) and ("leave",).
A sign is a tuple (hand, number, index).
"""

RUN_MOST = 8
SIGNS_MOST = 8
VALUE_MOST = 4


def is_writing(act):
    """Whether the act is a put, a cut or a mark."""
    return act[0] in ("put", "cut", "mark")


def signs_of(act):
    """The list of the signs to which the act refers, as often as they occur."""
    if act[0] == "put" and act[1] is not None:
        return [act[1]]
    if act[0] == "cut":
        return list(act[1])
    if act[0] == "mark":
        return [act[1], act[2]]
    return []


def is_act(act):
    """Whether the parts of the act are within their bounds.

    Whether its signs exist, and whether first comes after last, is not asked:
    only a history can tell.
    """
    word = act[0]
    if word == "put":
        return is_place(act[1]) and 1 <= len(act[2]) <= RUN_MOST
    if word == "cut":
        return are_cut_signs(act[1])
    if word == "mark":
        return is_sign(act[1]) and is_sign(act[2]) and is_value(act[3])
    if word == "toggle":
        return act[1] >= 0
    return word in ("note", "leave")


def is_sign(sign):
    """Whether the hand, the number and the index are from 0 on."""
    return all([part >= 0 for part in sign])


def is_place(after):
    """Whether a run can be written there: at the beginning, or after a sign."""
    return after is None or is_sign(after)


def are_cut_signs(signs):
    """Whether they are as many signs as one cut can have, and rising."""
    if not 1 <= len(signs) <= SIGNS_MOST:
        return False
    return is_rising(signs) and all([is_sign(sign) for sign in signs])


def is_rising(items):
    """Whether each item is greater than the one before it."""
    return all([one < other for one, other in zip(items, items[1:])])


def is_value(value):
    """Whether it is empty, or has few letters, all of them from a to z."""
    return len(value) <= VALUE_MOST and all(["a" <= letter <= "z" for letter in value])
