"""textatrest.hands: history, news, text, shown and kept of a hand (points 12, 13, 16 to 18)."""

import unittest

from handling import HandCase, drawn_hands, hands_of, share
from making import (
    plain_left, plain_news, plain_gone, plain_order, plain_shown, plain_time, plain_version, run_signs,
)
from textatrest import histories, throwing
from textatrest.errors import OutOfRange
from textatrest.hands import Hand


class News(HandCase):
    def test_nothing_is_done(self):
        for hands in (2, 3, 4):
            for number in range(hands):
                hand = Hand(hands, number, 2)
                for other in set(range(hands)) - {number}:
                    self.assertEqual(hand.news(other), ())

    def test_all_for_one_of_whom_nothing_is_heard(self):
        one, other, third = hands_of(3)
        deeds = (one.note(), one.put(0, "abc"))
        self.assertEqual((one.news(1), one.news(2)), (deeds, deeds))

    def test_telling_changes_nothing(self):
        one, other = hands_of(2)
        deed = one.note()
        other.hear(one.news(1))
        self.assertEqual(one.news(1), (deed,))
        self.assertEqual(one.news(1), (deed,))

    def test_what_is_acknowledged_by_a_deed_is_no_news(self):
        one, other = hands_of(2)
        first = one.note()
        other.hear([first])
        reply = other.note()
        second = one.note()
        self.assertEqual(one.news(1), (first, second))
        one.hear([reply])
        self.assertEqual(one.news(1), (second,))
        self.assertEqual(other.news(0), (reply,))
        other.hear([second])
        # What hand 1 did is not acknowledged by a deed that has not seen it.
        self.assertEqual(other.news(0), (reply,))
        third = one.note()
        other.hear([third])
        self.assertEqual(other.news(0), ())
        self.assertEqual(one.news(1), (second, third))

    def test_ones_own_deeds_are_no_news_for_it(self):
        one, other, third = hands_of(3)
        deed = other.note()
        one.hear([deed])
        self.assertEqual(one.news(1), ())
        self.assertEqual(one.news(2), (deed,))

    def test_what_one_acknowledged_is_news_for_the_others(self):
        one, other, third = hands_of(3)
        first = one.note()
        other.hear([first])
        reply = other.note()
        one.hear([reply])
        self.assertEqual((one.news(1), one.news(2)), ((), (first, reply)))
        third.hear([first])
        last = third.note()
        one.hear([last])
        self.assertEqual((one.news(1), one.news(2)), ((last,), (reply,)))

    def test_what_one_knows_by_another_ones_word_only(self):
        one, other, third = hands_of(3)
        first = one.note()
        other.hear([first])
        second = other.note()
        third.hear([first, second])
        # Hand 2 knows of first and second, but its deed has not reached hand 0.
        third.note()
        one.hear([second])
        self.assertEqual(one.news(2), (first, second))

    def test_the_order_of_the_times(self):
        one, other, third = hands_of(3)
        late = [third.note() for _ in range(3)]
        early = [other.note() for _ in range(3)]
        for deed in late + early:
            one.hear([deed])
        own = one.note()
        self.assertEqual(one.history(), (*late, *early, own))
        self.assertEqual(one.news(1), (*late, own))
        four = Hand(4, 3, 2)
        rows = [deed[:3] + (deed[3] + (0,),) + deed[4:] for deed in late + early]
        for deed in rows:
            four.hear([deed])
        self.assertEqual(four.news(0), tuple(sorted(rows, key=plain_time)))
        self.assertNotEqual(four.news(0), four.history())

    def test_for_one_that_has_left(self):
        one, other = hands_of(2)
        leave = other.leave()
        one.hear([leave])
        deed = one.note()
        self.assertEqual(one.news(1), (deed,))

    def test_by_one_that_has_left(self):
        one, other = hands_of(2)
        deeds = (one.note(), one.leave())
        self.assertEqual(one.news(1), deeds)

    def test_what_waits_is_no_news(self):
        one, other, third = hands_of(3)
        other.note()
        one.hear([other.note()])
        self.assertEqual(one.news(2), ())

    def test_hand(self):
        for hands in (2, 3, 4):
            for number in range(hands):
                hand = Hand(hands, number, 2)
                hand.note()
                for other in (-1, number, hands, hands + 1):
                    self.check_refused(hand, OutOfRange, "hand", "news", other)

    def test_one_that_has_left_tells_the_errors_too(self):
        hand = Hand(2, 0, 2)
        hand.leave()
        for other in (-1, 0, 2):
            self.check_refused(hand, OutOfRange, "hand", "news", other)

    def test_they_are_what_the_document_says(self):
        some, none = 0, 0
        for seed in range(30):
            hands = drawn_hands(seed, 50)
            if seed % 2 == 0:
                share(hands)
                hands[0].note()
                hands[1].hear(hands[0].history())
                hands[1].note()
                share(hands)
            for hand in hands:
                for other in set(range(len(hands))) - {hand.number()}:
                    found = hand.news(other)
                    self.assertIsInstance(found, tuple)
                    self.assertEqual(found, plain_news(len(hands), hand.history(), hand.number(), other))
                    some += found != ()
                    none += found == ()
        self.assertGreater(min(some, none), 5)

    def test_news_are_all_that_the_other_one_needs(self):
        for seed in range(10):
            hands = drawn_hands(seed, 40)
            one, other = hands[:2]
            other.hear(one.news(1))
            self.assertEqual([deed for deed in one.history() if deed not in other.history()], [])


class History(unittest.TestCase):
    def test_it_is_in_the_order_in_which_they_were_taken(self):
        one, other = hands_of(2)
        ones = [one.note() for _ in range(3)]
        deeds = [other.note(), *other.hear(ones[:1]), other.note(), *other.hear(ones[1:]), other.note()]
        self.assertEqual(other.history(), tuple(deeds))
        self.assertEqual([deed[:2] for deed in deeds], [(1, 0), (0, 0), (1, 1), (0, 1), (0, 2), (1, 2)])
        self.assertEqual(one.history(), tuple(ones))

    def test_version_and_has_left_are_those_of_the_history(self):
        for seed in range(10):
            hands = drawn_hands(seed, 40)
            hands[0].leave()
            share(hands)
            for hand in hands:
                self.assertEqual(hand.version(), plain_version(len(hands), hand.history()))
                self.assertIsInstance(hand.version(), tuple)
                self.assertIs(hand.has_left(), plain_left(hand.history(), hand.number()))


class Views(unittest.TestCase):
    def test_a_text_with_values(self):
        one, other = hands_of(2)
        first = one.put(0, "abc")
        other.hear(one.history())
        second = other.put(1, "xy")
        other.mark(0, 3, "b")
        one.cut(2, 1)
        one.hear(other.history())
        ones, twos = run_signs(first), run_signs(second)
        self.assertEqual(one.text(), "axyb")
        self.assertEqual(
            one.shown(), [(ones[0], "a", "b"), (twos[0], "x", "b"), (twos[1], "y", "b"), (ones[1], "b", "")],
        )
        self.assertEqual(one.kept(), [ones[0], *twos, *ones[1:]])

    def test_what_everybody_has_acknowledged_is_gone(self):
        one, other = hands_of(2, 0)
        signs = run_signs(one.put(0, "abc"))
        other.hear(one.history())
        other.cut(1, 1)
        self.assertEqual(other.kept(), signs)
        one.hear(other.history())
        # Hand 0 knows that hand 1 knows, but not the other way round.
        self.assertEqual((one.kept(), other.kept()), ([signs[0], signs[2]], signs))
        other.hear([one.note()])
        self.assertEqual((one.kept(), other.kept()), ([signs[0], signs[2]], [signs[0], signs[2]]))

    def test_they_are_as_histories_and_throwing_say(self):
        gone = 0
        for seed in range(30):
            hands = drawn_hands(seed, 50)
            bound = seed % 5
            for hand in hands:
                history = hand.history()
                self.assertEqual(hand.text(), histories.text(history))
                self.assertEqual(hand.shown(), histories.shown(history))
                found = throwing.kept(len(hands), bound, history, hand.number())
                self.assertEqual(hand.kept(), found)
                gone += len(histories.signs(history)) - len(found)
        self.assertGreater(gone, 20)

    def test_they_are_as_the_document_says(self):
        for seed in range(12):
            hands = drawn_hands(seed, 40)
            for hand in hands:
                history, own = hand.history(), hand.number()
                rows = plain_shown(history)
                self.assertEqual(hand.shown(), rows)
                self.assertEqual(hand.text(), "".join([row[1] for row in rows]))
                kept = [
                    sign for sign in plain_order(history)
                    if not plain_gone(len(hands), seed % 5, history, own, sign)
                ]
                self.assertEqual(hand.kept(), kept)


if __name__ == "__main__":
    unittest.main()
