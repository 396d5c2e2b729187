"""A hand: it does deeds, hears those of others, and shows what they make of the text."""

from textatrest.acts import RUN_MOST, SIGNS_MOST, is_act, is_value, is_writing
from textatrest.errors import HasLeft, IsFinal, NotAllowed, OutOfRange
from textatrest.histories import clock_for, has_left, is_allowed, is_final, shown, version_of
from textatrest.throwing import acknowledged, kept
from textatrest.versions import includes, joined, time_of, with_itself

HANDS_LEAST = 2
HANDS_MOST = 4
BOUND_MOST = 4


class Hand:
    """One of the hands that edit a text."""

    def __init__(self, hands, number, bound):
        check_head(hands, number, bound)
        self.hands = hands
        self.own = number
        self.bound = bound
        self.past = ()
        self.later = []

    def put(self, at, text):
        """Writes a run that begins at this index of the text shown; the deed."""
        self.check_stays()
        rows = self.shown()
        if not 0 <= at <= len(rows):
            raise OutOfRange("at")
        if not 1 <= len(text) <= RUN_MOST:
            raise OutOfRange("text")
        after = None if at == 0 else rows[at - 1][0]
        return self.perform(("put", after, text))

    def cut(self, at, many):
        """Deletes so many of the signs shown, from this index on; the deed."""
        self.check_stays()
        if not 1 <= many <= SIGNS_MOST:
            raise OutOfRange("many")
        # The text may show them in another order than the rising one of a cut.
        return self.perform(("cut", tuple(sorted(self.signs_shown(at, many)))))

    def mark(self, at, many, value):
        """Gives a value to so many of the signs shown, from this index on; the deed."""
        self.check_stays()
        if many < 1:
            raise OutOfRange("many")
        found = self.signs_shown(at, many)
        if not is_value(value):
            raise OutOfRange("value")
        return self.perform(("mark", found[0], found[-1], value))

    def toggle(self, number):
        """Takes back an own writing, or does it again; the deed."""
        self.check_stays()
        writing = self.own_writing(number)
        if writing is None:
            raise OutOfRange("number")
        if is_final(self.past, self.bound, writing):
            raise IsFinal(f"writing {number} is final")
        return self.perform(("toggle", number))

    def note(self):
        """Tells the others what the hand has heard; the deed."""
        self.check_stays()
        return self.perform(("note",))

    def leave(self):
        """Does the last deed of the hand; the deed."""
        self.check_stays()
        return self.perform(("leave",))

    def do(self, act):
        """Does any act that is allowed; the deed."""
        deed = self.allowed_deed(act)
        self.take_all([deed])
        return deed

    def hear(self, deeds):
        """Hears the deeds; the list of those that are taken now, in their order."""
        taken, self.later = taken_and_left(self.version(), self.waiting_with(deeds))
        self.take_all(taken)
        return taken

    def number(self):
        """The number of the hand."""
        return self.own

    def version(self):
        """How many deeds of each hand it has taken."""
        return version_of(self.hands, self.past)

    def has_left(self):
        """Whether the hand has left."""
        return has_left(self.past, self.own)

    def waiting(self):
        """The list of the deeds that wait, by their times."""
        return list(self.later)

    def history(self):
        """The tuple of its deeds in the order in which it took them."""
        return self.past

    def news(self, hand):
        """The tuple of the deeds of which another hand, as far as this one knows, does not know."""
        if hand == self.own or not 0 <= hand < self.hands:
            raise OutOfRange("hand")
        known = acknowledged(self.hands, self.past, self.own, hand)
        found = [deed for deed in self.past if deed[1] >= known[deed[0]]]
        return tuple(sorted(found, key=time_of))

    def text(self):
        """The characters of the signs that are shown, in their order."""
        return "".join([row[1] for row in self.shown()])

    def shown(self):
        """The list of tuples (sign, character, value) of the signs that are shown, in their order."""
        return shown(self.past)

    def kept(self):
        """The list of the signs that the hand keeps, in their order."""
        return kept(self.hands, self.bound, self.past, self.own)

    def allowed_deed(self, act):
        """The deed that do would do, without doing it."""
        self.check_stays()
        if not is_act(act):
            raise OutOfRange("act")
        deed = self.next_deed(act)
        if not is_allowed(self.past, self.hands, self.bound, deed):
            raise NotAllowed(f"the act {act[0]} is not allowed")
        return deed

    def would_take(self, deeds):
        """The list of the deeds that hear would take, without hearing them."""
        return taken_and_left(self.version(), self.waiting_with(deeds))[0]

    def take_all(self, deeds):
        """Takes deeds for which nothing is missing and that it does not have."""
        self.past = self.past + tuple(deeds)

    def perform(self, act):
        """Does an act that is known to be allowed; the deed."""
        deed = self.next_deed(act)
        self.take_all([deed])
        return deed

    def next_deed(self, act):
        """The deed of this hand that has seen all that the hand has."""
        seen = self.version()
        return (self.own, seen[self.own], clock_for(self.past, seen), seen, act)

    def own_writing(self, number):
        """The hand's own deed with this number if it is a writing; None otherwise."""
        for deed in self.past:
            if deed[:2] == (self.own, number) and is_writing(deed[4]):
                return deed
        return None

    def signs_shown(self, at, many):
        """The list of so many signs shown, from this index on."""
        rows = self.shown()
        if not 0 <= at <= len(rows) - many:
            raise OutOfRange("at")
        return [row[0] for row in rows[at:at + many]]

    def waiting_with(self, deeds):
        """The list of the deeds that wait, and of those that are heard and new."""
        version = self.version()
        found = list(self.later)
        names = {deed[:2]: True for deed in found}
        for deed in deeds:
            hand, name = deed[0], deed[:2]
            if hand != self.own and deed[1] >= version[hand] and name not in names:
                names[name] = True
                found.append(deed)
        return found

    def check_stays(self):
        """Raises an error if the hand has left."""
        if self.has_left():
            raise HasLeft(f"hand {self.own} has left")


def check_head(hands, number, bound):
    """Raises an error if there is no hand of this number in a text with so many and this bound."""
    check_hands(hands)
    if not 0 <= number < hands:
        raise OutOfRange("number")
    check_bound(bound)


def check_hands(hands):
    """Raises an error if no text has so many hands."""
    if not HANDS_LEAST <= hands <= HANDS_MOST:
        raise OutOfRange("hands")


def check_bound(bound):
    """Raises an error if no text has this bound."""
    if not 0 <= bound <= BOUND_MOST:
        raise OutOfRange("bound")


def taken_and_left(version, deeds):
    """Which of the deeds a hand with this version takes, in their order, and which wait, by their times."""
    taken, left = [], sorted(deeds, key=time_of)
    at = first_ready(version, left)
    while at is not None:
        deed = left.pop(at)
        taken.append(deed)
        version = joined(version, with_itself(deed))
        at = first_ready(version, left)
    return taken, left


def first_ready(version, deeds):
    """The index of the first deed whose seen the version includes; None if there is none."""
    for at, deed in enumerate(deeds):
        if includes(version, deed[3]):
            return at
    return None
