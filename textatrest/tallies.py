"""What the deeds of a history tell of its writings."""

from textatrest.acts import is_writing


class Tally:
    """Which writings of a history are active, and which are final, in its version."""

    def __init__(self, history):
        self.taken_back = {}
        self.writings = {}
        self.left_hands = {}
        for deed in history:
            self.take(deed)

    def take(self, deed):
        """Takes one more deed into account."""
        hand, number, act = deed[0], deed[1], deed[4]
        if is_writing(act):
            self.writings.setdefault(hand, []).append(number)
        elif act[0] == "toggle":
            place = (hand, act[1])
            self.taken_back[place] = not self.taken_back.get(place, False)
        elif act[0] == "leave":
            self.left_hands[hand] = True

    def has_left(self, hand):
        """Whether the hand has left."""
        return hand in self.left_hands

    def is_active(self, deed):
        """Whether the writing is active."""
        return not self.taken_back.get(deed[:2], False)

    def is_final(self, bound, deed):
        """Whether the writing is final."""
        hand, number = deed[0], deed[1]
        if bound == 0 or self.has_left(hand):
            return True
        numbers = self.writings.get(hand, [])
        # So many writings are behind it exactly if that one, counted from the last, is.
        return len(numbers) >= bound and numbers[-bound] > number
