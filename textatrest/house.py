"""A house: a hand whose deeds are kept on a disk, so that what others heard is never lost."""

from textatrest.errors import LogFull
from textatrest.hands import Hand
from textatrest.log import open_log


class House:
    """A hand, and the log to which each deed is appended that it takes."""

    def __init__(self, disk):
        self.log = open_log(disk)
        hands, number, bound = self.log.head()
        self.hand = Hand(hands, number, bound)
        self.hand.take_all(self.log.deeds())

    def do(self, act):
        """Does any act that is allowed; the deed."""
        self.log.check_usable()
        deed = self.hand.allowed_deed(act)
        # If the power is cut here, the hand must not have the deed.
        self.log.append(deed)
        self.hand.take_all([deed])
        return deed

    def hear(self, deeds):
        """Hears the deeds; the list of those that are taken now, in their order."""
        self.log.check_usable()
        taken = self.hand.would_take(deeds)
        if not self.log.room(taken):
            raise LogFull(f"there is no room for {len(taken)} deeds")
        for deed in taken:
            self.log.append(deed)
        return self.hand.hear(deeds)

    def news(self, hand):
        """The tuple of the deeds of which another hand does not know; they are flushed first."""
        self.log.check_usable()
        found = self.hand.news(hand)
        if found:
            self.log.sync()
        return found

    def sync(self):
        """Flushes all deeds; how many there are."""
        self.log.sync()
        return len(self.history())

    def history(self):
        """The tuple of the deeds of the hand in the order in which it took them."""
        return self.hand.history()

    def version(self):
        """How many deeds of each hand it has taken."""
        return self.hand.version()

    def text(self):
        """The characters of the signs that are shown, in their order."""
        return self.hand.text()

    def shown(self):
        """The list of tuples (sign, character, value) of the signs that are shown, in their order."""
        return self.hand.shown()

    def kept(self):
        """The list of the signs that the hand keeps, in their order."""
        return self.hand.kept()

    def has_left(self):
        """Whether the hand has left."""
        return self.hand.has_left()

    def free_blocks(self):
        """How many blocks of the disk are left."""
        return self.log.free_blocks()

    def is_usable(self):
        """Whether the power of its disk was not cut since it was made."""
        return self.log.is_usable()

    def check_usable(self):
        """Raises an error if the power of its disk was cut."""
        self.log.check_usable()
