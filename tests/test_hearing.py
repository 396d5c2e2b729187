"""textatrest.hands: what a hand hears, and what waits (points 14 and 15 of the document)."""

import random
import unittest
from itertools import permutations

from handling import drawn_hands, hands_of, share, state_of
from making import plain_hear, random_texts
from textatrest.hands import Hand

NOTE = ("note",)


def notes(number, many):
    """The first deeds of this hand of two, that are all notes."""
    hand = Hand(2, number, 2)
    return [hand.note() for _ in range(many)]


def chain():
    """Three deeds of three hands, each of which knows the one before it; in their order."""
    one, two, three = hands_of(3)
    first = one.put(0, "ab")
    two.hear([first])
    second = two.put(2, "cd")
    three.hear([first, second])
    return [first, second, three.cut(1, 2)]


class Hears(unittest.TestCase):
    def test_a_list_and_a_tuple(self):
        for made in (list, tuple):
            hand = Hand(2, 0, 2)
            deeds = notes(1, 3)
            self.assertEqual(hand.hear(made(deeds)), deeds)
            self.assertEqual(hand.history(), tuple(deeds))
            self.assertEqual(hand.version(), (0, 3))

    def test_no_deeds(self):
        for hand in (Hand(2, 0, 2), Hand(4, 3, 0)):
            before = state_of(hand)
            self.assertEqual(hand.hear([]), [])
            self.assertEqual(hand.hear(()), [])
            self.assertEqual(state_of(hand), before)

    def test_news_in_any_order_by_one_call(self):
        deeds = chain()
        for order in permutations(deeds):
            hand = Hand(4, 3, 2)
            # A text of four hands has versions with four numbers.
            longer = [deed[:3] + (deed[3] + (0,),) + deed[4:] for deed in order]
            self.assertEqual(hand.hear(longer), sorted(longer, key=lambda deed: deed[2]))
            self.assertEqual(hand.waiting(), [])
            self.assertEqual(hand.text(), "ad")

    def test_news_in_any_order_by_several_calls(self):
        for order in permutations(notes(1, 4)):
            hand, heard = Hand(2, 0, 2), []
            for deed in order:
                taken = hand.hear([deed])
                heard.append(deed)
                self.assertEqual(sorted(list(hand.history()) + hand.waiting()), sorted(heard))
                self.assertEqual(list(hand.history())[len(hand.history()) - len(taken):], taken)
            self.assertEqual(hand.history(), tuple(sorted(order)))
            self.assertEqual(hand.waiting(), [])

    def test_doubled_deeds(self):
        deeds = notes(1, 3)
        hand = Hand(2, 0, 2)
        self.assertEqual(hand.hear([deeds[0], deeds[0], deeds[1], deeds[0]]), deeds[:2])
        self.assertEqual(hand.hear(deeds[:2]), [])
        self.assertEqual(hand.hear(deeds + deeds), deeds[2:])
        self.assertEqual(hand.history(), tuple(deeds))

    def test_doubled_deeds_that_wait(self):
        deeds = notes(1, 3)
        hand = Hand(2, 0, 2)
        self.assertEqual(hand.hear([deeds[2], deeds[2]]), [])
        self.assertEqual(hand.hear([deeds[2]]), [])
        self.assertEqual(hand.waiting(), [deeds[2]])
        self.assertEqual(hand.hear(deeds + deeds), deeds)
        self.assertEqual(hand.waiting(), [])

    def test_elder_news_again(self):
        one, other = hands_of(2)
        one.put(0, "abc")
        elder = one.news(1)
        one.note()
        newer = one.news(1)
        self.assertEqual(other.hear(newer), list(newer))
        before = state_of(other)
        self.assertEqual(other.hear(elder), [])
        self.assertEqual(state_of(other), before)

    def test_its_own_deeds_are_heard_no_more(self):
        hand = Hand(2, 0, 2)
        hand.put(0, "abc")
        before = state_of(hand)
        self.assertEqual(hand.hear(hand.history()), [])
        self.assertEqual(state_of(hand), before)

    def test_a_deed_of_its_own_number_that_it_does_not_have(self):
        one, other = hands_of(2)
        first = one.put(0, "abc")
        other.hear([first])
        second = other.note()
        fresh = Hand(2, 0, 2)
        self.assertEqual(fresh.hear([first]), [])
        self.assertEqual((fresh.history(), fresh.waiting()), ((), []))
        self.assertEqual(fresh.hear([first, second]), [])
        self.assertEqual((fresh.history(), fresh.waiting()), ((), [second]))

    def test_what_waits_is_taken_by_the_call_that_brings_what_is_missing(self):
        first, second, third = chain()
        hand = Hand(3, 1, 2)
        self.assertEqual(hand.hear([third]), [])
        self.assertEqual(hand.waiting(), [third])
        self.assertEqual(hand.text(), "")
        hand = Hand(3, 2, 2)
        self.assertEqual(hand.hear([second]), [])
        self.assertEqual(hand.hear([first]), [first, second])
        self.assertEqual((hand.waiting(), hand.text()), ([], "abcd"))

    def test_only_what_misses_nothing_is_taken(self):
        deeds = notes(1, 6)
        hand = Hand(2, 0, 2)
        self.assertEqual(hand.hear([deeds[5], deeds[2], deeds[1]]), [])
        self.assertEqual(hand.waiting(), [deeds[1], deeds[2], deeds[5]])
        self.assertEqual(hand.hear([deeds[0]]), deeds[:3])
        self.assertEqual(hand.waiting(), [deeds[5]])
        self.assertEqual(hand.hear([deeds[4]]), [])
        self.assertEqual(hand.hear([deeds[3]]), deeds[3:])

    def test_the_earliest_that_can_be_taken_is_taken_first(self):
        one, two, three = hands_of(3)
        ones = [one.note() for _ in range(3)]
        twos = [two.note() for _ in range(3)]
        hand = Hand(3, 2, 2)
        expected = [ones[0], twos[0], ones[1], twos[1], ones[2], twos[2]]
        self.assertEqual(hand.hear(twos + ones), expected)
        # The clock decides ahead of the hand, and both ahead of the order of hearing.
        hand = Hand(3, 2, 2)
        self.assertEqual(hand.hear(ones[1:] + twos[1:]), [])
        self.assertEqual(hand.hear([twos[0], ones[0]]), expected)
        # An elder deed that cannot be taken does not hold up a later one.
        hand = Hand(3, 2, 2)
        self.assertEqual(hand.hear([ones[1], twos[0], twos[1], twos[2]]), twos)
        self.assertEqual(hand.waiting(), [ones[1]])
        self.assertEqual(hand.hear([ones[0]]), ones[:2])

    def test_all_wait_first_then_deeds_are_taken(self):
        one, two = hands_of(3)[:2]
        early, late = one.note(), [two.note() for _ in range(2)]
        hand = Hand(3, 2, 2)
        # The last one that is passed is the earliest of all.
        self.assertEqual(hand.hear([late[0], late[1], early]), [early, late[0], late[1]])

    def test_waiting_rises_by_times(self):
        one, two, three = hands_of(3)
        ones = [one.note() for _ in range(4)]
        twos = [two.note() for _ in range(4)]
        expected = [ones[1], twos[1], ones[2], twos[2], ones[3], twos[3]]
        source = random.Random(3)
        for _ in range(10):
            hand, heard = Hand(3, 2, 2), list(expected)
            source.shuffle(heard)
            hand.hear(heard[:3])
            self.assertEqual(hand.waiting(), [deed for deed in expected if deed in heard[:3]])
            hand.hear(heard[3:])
            self.assertEqual(hand.waiting(), expected)
            self.assertEqual(hand.history(), ())


class Lists(unittest.TestCase):
    def test_what_is_returned_is_new(self):
        deeds = notes(1, 3)
        hand = Hand(2, 0, 2)
        taken = hand.hear([deeds[0], deeds[2]])
        waiting = hand.waiting()
        before = state_of(hand)
        taken.append(deeds[1])
        waiting.append(deeds[1])
        taken[0], waiting[0] = None, None
        self.assertEqual(state_of(hand), before)
        self.assertIsNot(hand.waiting(), hand.waiting())
        self.assertEqual(hand.hear([deeds[1]]), deeds[1:])

    def test_what_was_passed_stays_as_it_was_and_may_change_later(self):
        deeds = notes(1, 4)
        passed = [deeds[3], deeds[0], deeds[0]]
        hand = Hand(2, 0, 2)
        hand.hear(passed)
        self.assertEqual(passed, [deeds[3], deeds[0], deeds[0]])
        before = state_of(hand)
        passed.clear()
        self.assertEqual(state_of(hand), before)
        passed.extend(deeds)
        self.assertEqual(state_of(hand), before)

    def test_other_lists_that_are_returned_are_new(self):
        hand = Hand(2, 0, 2)
        hand.put(0, "abc")
        before = state_of(hand)
        for found in (hand.shown(), hand.kept(), hand.waiting()):
            self.assertIsInstance(found, list)
            found.append("changed by the caller")
        self.assertEqual(state_of(hand), before)
        for found in (hand.history(), hand.news(1), hand.version()):
            self.assertIsInstance(found, tuple)


class Whole(unittest.TestCase):
    def parts(self, source, deeds):
        """The deeds in any order, some of them doubled, in parts."""
        rows = list(deeds) + [source.choice(deeds) for _ in range(len(deeds) // 3)]
        source.shuffle(rows)
        while rows:
            many = source.randint(0, 4)
            yield rows[:many]
            rows = rows[many:]

    def test_what_is_taken_and_what_waits_is_what_the_document_says(self):
        waited = 0
        for seed, made in enumerate(random_texts(20, 40)):
            source = random.Random(seed)
            made.hear_all()
            deeds = [deed for deed in made.histories[0] if deed[0] != 0]
            if not deeds:
                continue
            hand, history, waiting = Hand(made.hands, 0, made.bound), (), []
            # Its own deeds are missing here: what knows of them waits for ever.
            for part in self.parts(source, deeds):
                taken, history, waiting = plain_hear(0, history, waiting, part)
                self.assertEqual(hand.hear(part), taken)
                self.assertEqual(hand.history(), history)
                self.assertEqual(hand.waiting(), waiting)
                waited += len(waiting)
        self.assertGreater(waited, 100)

    def test_neither_the_order_nor_how_often_decides_what_it_has(self):
        for seed, made in enumerate(random_texts(20, 40)):
            source = random.Random(seed)
            made.hear_all()
            if plain_others(made):
                self.check_orders(source, made)

    def check_orders(self, source, made):
        deeds = plain_others(made)
        heard = source.sample(deeds, source.randint(1, len(deeds)))
        hands = [Hand(made.hands, 0, made.bound) for _ in range(3)]
        hands[0].hear(heard)
        for hand in hands[1:]:
            for part in self.parts(source, heard):
                hand.hear(part)
        for hand in hands:
            self.assertEqual(hand.version(), hands[0].version())
            self.assertEqual(sorted(hand.history()), sorted(hands[0].history()))
            self.assertEqual(hand.waiting(), hands[0].waiting())
            self.assertEqual(hand.shown(), hands[0].shown())
            self.assertEqual(hand.text(), hands[0].text())
            self.assertEqual(hand.kept(), hands[0].kept())

    def test_hands_that_have_heard_the_same_show_the_same(self):
        values, waited = 0, 0
        for seed in range(30):
            hands = drawn_hands(seed, 60)
            waited += len([hand for hand in hands if hand.waiting()])
            share(hands)
            orders = {hand.history() for hand in hands}
            self.assertEqual(len({hand.version() for hand in hands}), 1)
            self.assertEqual(len({tuple(sorted(order)) for order in orders}), 1)
            self.assertGreater(len(orders), 1)
            self.assertEqual([hand.shown() for hand in hands], [hands[0].shown()] * len(hands))
            self.assertEqual([hand.text() for hand in hands], [hands[0].text()] * len(hands))
            self.assertEqual([hand.waiting() for hand in hands], [[]] * len(hands))
            values += len([row for row in hands[0].shown() if row[2] != ""])
        self.assertGreater(min(values, waited), 20)


def plain_others(made):
    """The deeds of a text that are none of hand 0."""
    return [deed for deed in made.histories[0] if deed[0] != 0]


if __name__ == "__main__":
    unittest.main()
