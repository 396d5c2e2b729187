"""What a history tells: versions, the state of writings, signs and the text.

A history is a tuple of deeds (hand, number, clock, seen, act) such that each
comes after all that it knows, and that has with each deed all that it knows.
"""

from textatrest.acts import is_writing, signs_of
from textatrest.errors import NoSign
from textatrest.paths import comes_before, step_of
from textatrest.tallies import Tally
from textatrest.versions import includes, time_of


def version_of(hands, history):
    """The version of the whole history."""
    counts = [0] * hands
    for deed in history:
        counts[deed[0]] += 1
    return tuple(counts)


def clock_for(history, seen):
    """The clock of a deed that has seen this version."""
    return 1 + max([deed[2] for deed in within(history, seen)], default=0)


def within(history, version):
    """The tuple of the deeds that the version includes, in the order of the history."""
    return tuple([deed for deed in history if deed[1] < version[deed[0]]])


def is_active(history, deed):
    """Whether the writing is active in the version of the whole history."""
    return Tally(history).is_active(deed)


def is_final(history, bound, deed):
    """Whether the writing is final in the version of the whole history."""
    return Tally(history).is_final(bound, deed)


def has_left(history, hand):
    """Whether the leave of the hand is in the history."""
    return Tally(history).has_left(hand)


def is_shown(history, sign):
    """Whether the sign is shown; False if there is no put of it."""
    return sign in shown_characters(history)


def is_dead(history, bound, sign):
    """Whether the sign is dead; False if there is no put of it."""
    return sign in dead_signs(history, bound)


def path(history, sign):
    """The path of the sign."""
    puts = puts_of(history)
    steps = []
    while sign is not None:
        put = put_of(puts, sign)
        if put is None:
            raise NoSign(f"no put of {sign} is in the history")
        steps.append(step_of(put, sign[2]))
        sign = put[4][1]
    return tuple(reversed(steps))


def signs(history):
    """The list of all signs of the puts of the history, in their order."""
    runs = runs_by_place(history)
    found = []
    waiting = backwards(runs.get(None, []))
    while waiting:
        sign = waiting.pop()
        found.append(sign)
        # What was written after a sign stands between it and the next sign of its run.
        waiting.extend(backwards(runs.get(sign, [])))
    return found


def shown(history):
    """The list of tuples (sign, character, value) of the signs that are shown, in their order."""
    characters = shown_characters(history)
    order = signs(history)
    values = values_of(history, order)
    return [(sign, characters[sign], value) for sign, value in zip(order, values) if sign in characters]


def text(history):
    """The characters of the signs that are shown, in their order."""
    return "".join([row[1] for row in shown(history)])


def is_allowed(history, hands, bound, deed):
    """Whether a deed whose seen is included in the history is allowed.

    The interface passes hands; what allows a deed does not depend on them.
    """
    hand, act = deed[0], deed[4]
    before = within(history, deed[3])
    if has_left(before, hand) or not can_refer(before, bound, act):
        return False
    if act[0] == "mark":
        return not comes_before(path(before, act[2]), path(before, act[1]))
    if act[0] == "toggle":
        return can_toggle(before, bound, (hand, act[1]))
    return True


def fits(history, hands, bound, deed):
    """Whether a deed of one of the hands, with an act within its bounds, can stand next in the history."""
    hand, number, clock, seen = deed[:4]
    there = version_of(hands, history)
    if not number == seen[hand] == there[hand] or not includes(there, seen):
        return False
    if not is_closed(history, seen) or clock != clock_for(history, seen):
        return False
    return is_allowed(history, hands, bound, deed)


def is_closed(history, version):
    """Whether the version includes with every deed all that this has seen."""
    return all([includes(version, deed[3]) for deed in within(history, version)])


def can_refer(history, bound, act):
    """Whether each sign to which the act refers is there, and not dead."""
    puts = puts_of(history)
    dead = dead_signs(history, bound)
    return all([put_of(puts, sign) is not None and sign not in dead for sign in signs_of(act)])


def can_toggle(history, bound, place):
    """Whether the deed (hand, number) is in the history, a writing, and not final."""
    for deed in history:
        if deed[:2] == place:
            return is_writing(deed[4]) and not is_final(history, bound, deed)
    return False


def puts_of(history):
    """A dict of the puts of the history by their hands and numbers."""
    return {deed[:2]: deed for deed in history if deed[4][0] == "put"}


def put_of(puts, sign):
    """The put, of those by hands and numbers, that wrote the sign; None if there is none."""
    put = puts.get(sign[:2], None)
    if put is None or not 0 <= sign[2] < len(put[4][2]):
        return None
    return put


def run_of(put):
    """The list of the signs of the run of a put."""
    return [(put[0], put[1], index) for index in range(len(put[4][2]))]


def runs_by_place(history):
    """A dict of the puts by the sign after which they are written, the earliest first."""
    runs = {}
    for put in sorted(puts_of(history).values(), key=time_of):
        runs.setdefault(put[4][1], []).append(put)
    return runs


def backwards(puts):
    """The signs of puts written after the same sign, the one that comes first at the end."""
    return [sign for put in puts for sign in reversed(run_of(put))]


def deleted_by(cuts):
    """A dict of True for each sign that one of the cuts deletes."""
    return {sign: True for cut in cuts for sign in cut[4][1]}


def cuts_of(history):
    """The list of the cuts of the history."""
    return [deed for deed in history if deed[4][0] == "cut"]


def shown_characters(history):
    """A dict of the characters of the signs that are shown."""
    tally = Tally(history)
    deleted = deleted_by([cut for cut in cuts_of(history) if tally.is_active(cut)])
    found = {}
    for put in puts_of(history).values():
        if tally.is_active(put):
            for sign, character in zip(run_of(put), put[4][2]):
                if sign not in deleted:
                    found[sign] = character
    return found


def dead_signs(history, bound):
    """A dict of True for each sign that is dead."""
    tally = Tally(history)
    final_cuts = [cut for cut in cuts_of(history) if tally.is_active(cut) and tally.is_final(bound, cut)]
    deleted = deleted_by(final_cuts)
    found = {}
    for put in puts_of(history).values():
        lost = tally.is_final(bound, put) and not tally.is_active(put)
        for sign in run_of(put):
            if lost or sign in deleted:
                found[sign] = True
    return found


def values_of(history, order):
    """The list of the values that the active marks give to the signs, which are in this order."""
    tally = Tally(history)
    places = {sign: at for at, sign in enumerate(order)}
    values = [""] * len(order)
    marks = [deed for deed in history if deed[4][0] == "mark" and tally.is_active(deed)]
    # The latest mark comes last, so that its value is the one that stays.
    for mark in sorted(marks, key=time_of):
        _, first, last, value = mark[4]
        for at in range(places[first], places[last] + 1):
            values[at] = value
    return values
