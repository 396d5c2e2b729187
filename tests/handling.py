"""What the tests of hands share; it uses the program, and making what the document says."""

import copy
import random
import unittest

from making import plain_version, random_act
from textatrest.hands import Hand


def hands_of(hands, bound=2):
    """A list with all hands of a text."""
    return [Hand(hands, number, bound) for number in range(hands)]


def share(hands):
    """Everybody hears everything."""
    everything = [deed for hand in hands for deed in hand.history()]
    for hand in hands:
        hand.hear(everything)


def state_of(hand):
    """All that a hand tells, and the deed that it would do next."""
    others = [other for other in range(len(hand.version())) if other != hand.number()]
    next_deed = None if hand.has_left() else copy.deepcopy(hand).note()
    return (
        hand.number(), hand.version(), hand.has_left(), hand.waiting(), hand.history(), hand.text(),
        hand.shown(), hand.kept(), [hand.news(other) for other in others], next_deed,
    )


def next_deed_of(hands, history, number, act):
    """The deed that point 4 tells for this hand with this history."""
    seen = plain_version(hands, history)
    return (number, seen[number], 1 + max([deed[2] for deed in history], default=0), seen, act)


def drawn_hands(seed, steps):
    """Hands that did random deeds, and heard some deeds of each other, in any order and doubled."""
    source = random.Random(seed)
    bound = seed % 5
    hands = hands_of(2 + seed % 3, bound)
    for _ in range(steps):
        hand, other = source.sample(hands, 2)
        if source.random() < 0.5:
            hand.do(random_act(source, hand.history(), bound, hand.number()))
        elif other.history():
            hand.hear(source.choices(other.history(), k=source.randint(1, 8)))
        if source.random() < 0.1:
            hand.hear(other.news(hand.number()))
    return hands


class HandCase(unittest.TestCase):
    def check_refused(self, hand, error, name, method, *arguments):
        """The call raises exactly this error, with this name if it is not None, and changes nothing."""
        before, given = state_of(hand), copy.deepcopy(arguments)
        with self.subTest(method=method, arguments=arguments):
            with self.assertRaises(error) as told:
                getattr(hand, method)(*arguments)
            self.assertIs(type(told.exception), error)
            if name is not None:
                self.assertEqual(told.exception.name, name)
            self.assertEqual(state_of(hand), before)
            self.assertEqual(arguments, given)

    def check_done(self, hand, act, method, *arguments):
        """The call returns the deed of this act, and the hand has it behind the others; the deed."""
        before, given = hand.history(), copy.deepcopy(arguments)
        expected = next_deed_of(len(hand.version()), before, hand.number(), act)
        with self.subTest(method=method, arguments=arguments):
            self.assertEqual(getattr(hand, method)(*arguments), expected)
            self.assertEqual(hand.history(), before + (expected,))
            self.assertEqual(hand.version(), plain_version(len(hand.version()), hand.history()))
            self.assertEqual(arguments, given)
        return expected

    def check_done_by_a_copy(self, hand, act, method, *arguments):
        return self.check_done(copy.deepcopy(hand), act, method, *arguments)
