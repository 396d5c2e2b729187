"""A link: one house for each hand, and the letters between them."""

from textatrest.disks import Disk
from textatrest.errors import NoLetter, OutOfRange
from textatrest.hands import check_bound, check_hands
from textatrest.house import House
from textatrest.log import format_disk


class Link:
    """Houses on disks of their own, and a row of letters, the eldest first."""

    def __init__(self, hands, bound, blocks):
        check_hands(hands)
        check_bound(bound)
        self.disks = [Disk(blocks) for _ in range(hands)]
        for number, disk in enumerate(self.disks):
            format_disk(disk, hands, number, bound)
        self.houses = [House(disk) for disk in self.disks]
        self.row = []

    def do(self, hand, act):
        """The hand does any act that is allowed; the deed."""
        return self.house_of(hand).do(act)

    def sync(self, hand):
        """Flushes all deeds of the hand; how many there are."""
        return self.house_of(hand).sync()

    def send(self, hand, to):
        """Puts a letter with the news of one hand for another into the row, if there are any; whether there are."""
        house = self.house_of(hand)
        if to == hand or not self.is_hand(to):
            raise OutOfRange("to")
        deeds = house.news(to)
        if not deeds:
            return False
        self.row.append((to, deeds))
        return True

    def letters(self):
        """The list of the letters (to, deeds), the eldest first."""
        return list(self.row)

    def drop(self, at):
        """Takes a letter out of the row."""
        self.check_letter(at)
        self.row.pop(at)

    def duplicate(self, at):
        """Puts the same letter at the end of the row once more."""
        self.check_letter(at)
        self.row.append(self.row[at])

    def deliver(self, at):
        """Takes a letter out of the row and lets it be heard; how many deeds were taken."""
        self.check_letter(at)
        to, deeds = self.row.pop(at)
        house = self.houses[to]
        if not house.is_usable():
            return 0
        return len(house.hear(deeds))

    def histories(self):
        """The list of the histories of all hands, also of those whose houses are not open."""
        return [house.history() for house in self.houses]

    def text(self, hand):
        """The characters that are shown to the hand, in their order."""
        return self.open_house_of(hand).text()

    def kept(self, hand):
        """The list of the signs that the hand keeps, in their order."""
        return self.open_house_of(hand).kept()

    def is_open(self, hand):
        """Whether the house of the hand can be used."""
        return self.house_of(hand).is_usable()

    def cut_power(self, hand, torn):
        """Cuts the power of the disk of the hand."""
        self.disk_of(hand).cut_power(torn)

    def schedule_cut(self, hand, many, torn):
        """Schedules a cut of the power of the disk of the hand."""
        self.disk_of(hand).schedule_cut(many, torn)

    def reopen(self, hand):
        """Opens a new house on the disk of the hand; how many deeds it has."""
        disk = self.disk_of(hand)
        # If the power is cut by this, the elder house stays, and is not open any more.
        self.houses[hand] = House(disk)
        return len(self.houses[hand].history())

    def is_hand(self, hand):
        """Whether there is a hand with this number."""
        return 0 <= hand < len(self.houses)

    def check_hand(self, hand):
        """Raises an error if there is no such hand."""
        if not self.is_hand(hand):
            raise OutOfRange("hand")

    def check_letter(self, at):
        """Raises an error if there is no such letter."""
        if not 0 <= at < len(self.row):
            raise NoLetter(f"there is no letter {at} in the row")

    def disk_of(self, hand):
        """The disk of a hand."""
        self.check_hand(hand)
        return self.disks[hand]

    def house_of(self, hand):
        """The house of a hand, open or not."""
        self.check_hand(hand)
        return self.houses[hand]

    def open_house_of(self, hand):
        """The house of a hand, which is open."""
        house = self.house_of(hand)
        house.check_usable()
        return house
