"""What may be thrown away, and the witnesses for what is kept.

A course is a tuple of deeds. It is a witness for a sign if it can follow for
the hand own that has the history, and the sign is shown behind it, or one of
its deeds refers to the sign.
"""

from textatrest.acts import is_act, signs_of
from textatrest.errors import NoSign
from textatrest.histories import (
    clock_for, cuts_of, dead_signs, fits, has_left, is_active, is_dead,
    is_shown, put_of, puts_of, signs, version_of, within,
)
from textatrest.versions import includes, joined, with_itself


def acknowledged(hands, history, own, hand):
    """The version that the hand has acknowledged, as far as the hand own knows."""
    if hand == own:
        return version_of(hands, history)
    version = (0,) * hands
    for deed in history:
        if deed[0] == hand:
            version = with_itself(deed)
    return version


def is_gone(hands, bound, history, own, sign):
    """Whether the sign is gone for the hand own; False if there is no put of it."""
    return is_in_all(dead_everywhere(hands, bound, history, own), sign)


def kept(hands, bound, history, own):
    """The list of the signs that the hand own keeps, in their order."""
    tables = dead_everywhere(hands, bound, history, own)
    return [sign for sign in signs(history) if not is_in_all(tables, sign)]


def witness(hands, bound, history, own, sign):
    """A witness for the sign, or None if it is gone."""
    put = put_in(history, sign)
    if is_gone(hands, bound, history, own, sign):
        return None
    if is_dead(history, bound, sign):
        return course_that_refers(hands, bound, history, own, sign, put)
    return course_that_shows(hands, history, sign, put)


def fault(hands, bound, history, own, sign, course):
    """The fault of a course that is offered for the sign; None if it is a witness."""
    put_in(history, sign)
    for k, deed in enumerate(course):
        if not can_follow(hands, bound, history, own, course[:k], deed):
            return ("deed", k)
    if is_shown(history + course, sign) or is_referred_to(course, sign):
        return None
    return ("needless",)


def put_in(history, sign):
    """The put of the sign."""
    put = put_of(puts_of(history), sign)
    if put is None:
        raise NoSign(f"no put of {sign} is in the history")
    return put


def is_referred_to(course, sign):
    """Whether a deed of the course refers to the sign."""
    return any([sign in signs_of(deed[4]) for deed in course])


def dead_everywhere(hands, bound, history, own):
    """A list of tables: the signs that are dead for own, and for each hand that has not left."""
    versions = [version_of(hands, history)]
    for hand in staying(hands, history):
        versions.append(acknowledged(hands, history, own, hand))
    return [dead_signs(within(history, version), bound) for version in versions]


def staying(hands, history):
    """The list of the hands that have not left."""
    return [hand for hand in range(hands) if not has_left(history, hand)]


def is_in_all(tables, sign):
    """Whether each of the tables has the sign."""
    return all([sign in table for table in tables])


def next_deed(history, hand, seen, act):
    """The deed of a hand that has seen this version of the history."""
    return (hand, seen[hand], clock_for(history, seen), seen, act)


def course_that_shows(hands, history, sign, put):
    """The course that takes back whatever hides a sign that is not dead."""
    course = ()
    for hand, number in hiding(history, sign, put):
        known = history + course
        toggle = next_deed(known, hand, version_of(hands, known), ("toggle", number))
        course = course + (toggle,)
    return course


def hiding(history, sign, put):
    """The rising list of the hands and numbers of the writings that hide the sign."""
    found = [cut[:2] for cut in cuts_of(history) if sign in cut[4][1] and is_active(history, cut)]
    if not is_active(history, put):
        found.append(put[:2])
    return sorted(found)


def course_that_refers(hands, bound, history, own, sign, put):
    """The course that writes after a dead sign, by a hand that may not know that it is dead."""
    unaware = [
        hand for hand in staying(hands, history)
        if not is_dead(within(history, acknowledged(hands, history, own, hand)), bound, sign)
    ]
    writer = min(unaware)
    # The writer may not have heard the put of the sign yet; then it hears it ahead of its deed.
    seen = joined(acknowledged(hands, history, own, writer), with_itself(put))
    return (next_deed(history, writer, seen, ("put", sign, "x")),)


def can_follow(hands, bound, history, own, done, deed):
    """Whether its hand could do the deed next, behind the deeds of the course that are done."""
    hand, seen, act = deed[0], deed[3], deed[4]
    if not 0 <= hand < hands or len(seen) != hands:
        return False
    if not includes(seen, acknowledged(hands, history, own, hand)):
        return False
    # What fits has seen all deeds of its hand ahead of it, those of the course too, with all that they have seen.
    return is_act(act) and fits(history + done, hands, bound, deed)
