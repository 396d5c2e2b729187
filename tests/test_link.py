"""textatrest.link: Link (points 16, 30, 31 and 32 of the document)."""

import copy
import unittest
from itertools import product

from making import run_signs, sign_of
from storing import TORN
from textatrest.errors import (
    HasLeft, LogFull, NoLetter, NotAllowed, NotOpen, OutOfRange, PowerCut, RestError,
)
from textatrest.link import Link

NOTE = ("note",)
PUT = ("put", None, "abcdefgh")


def link_of(hands=3, bound=2, blocks=40):
    return Link(hands, bound, blocks)


def state_of(link):
    hands = range(len(link.histories()))
    opened = [hand for hand in hands if link.is_open(hand)]
    return (
        link.letters(), link.histories(), [link.is_open(hand) for hand in hands],
        [(link.text(hand), link.kept(hand)) for hand in opened],
    )


def told(call, *arguments):
    """What the call returns, or which error it raises with which name."""
    try:
        return call(*arguments)
    except RestError as e:
        return (type(e), getattr(e, "name", None))


class LinkCase(unittest.TestCase):
    def check_refused(self, link, error, name, method, *arguments):
        """The call raises exactly this error, with this name if it is not None, and changes nothing."""
        before, given = state_of(link), copy.deepcopy(arguments)
        with self.subTest(method=method, arguments=arguments):
            self.assertEqual(told(getattr(link, method), *arguments), (error, name))
            self.assertEqual(state_of(link), before)
            self.assertEqual(arguments, given)

    def check_cut(self, link, method, *arguments):
        with self.assertRaises(PowerCut):
            getattr(link, method)(*arguments)


class Making(LinkCase):
    def test_all_that_there_are(self):
        for hands in (2, 3, 4):
            for bound in range(5):
                for blocks in (8, 400):
                    link = Link(hands, bound, blocks)
                    self.assertEqual(link.histories(), [()] * hands)
                    self.assertEqual(link.letters(), [])
                    self.assertEqual([link.is_open(hand) for hand in range(hands)], [True] * hands)
                    self.assertEqual([link.text(hand) for hand in range(hands)], [""] * hands)
                    self.assertEqual([link.kept(hand) for hand in range(hands)], [[]] * hands)

    def test_the_disks_have_so_many_blocks(self):
        for blocks in (8, 9, 12):
            link = Link(2, 0, blocks)
            for _ in range(blocks - 1):
                link.do(1, NOTE)
            self.check_refused(link, LogFull, None, "do", 1, NOTE)

    def test_the_bound_is_that_of_the_houses(self):
        for bound in range(5):
            link = Link(2, bound, 40)
            link.do(0, PUT)
            for _ in range(bound):
                self.assertEqual(told(link.do, 0, ("toggle", 0))[0], 0)
                link.do(0, PUT)
            self.check_refused(link, NotAllowed, None, "do", 0, ("toggle", 0))

    def test_what_is_out_of_range(self):
        for hands, bound, blocks in product((-1, 1, 2, 4, 5), (-1, 0, 4, 5), (-1, 7, 8, 400, 401)):
            expected = None
            if not 8 <= blocks <= 400:
                expected = "blocks"
            if not 0 <= bound <= 4:
                expected = "bound"
            if not 2 <= hands <= 4:
                expected = "hands"
            found = told(Link, hands, bound, blocks)
            if expected is None:
                self.assertIsInstance(found, Link)
            else:
                self.assertEqual(found, (OutOfRange, expected))


class Does(LinkCase):
    def test_deeds_of_each_hand(self):
        for hands in (2, 3, 4):
            link = link_of(hands)
            for hand in range(hands):
                deed = link.do(hand, PUT)
                self.assertEqual(deed, (hand, 0, 1, (0,) * hands, PUT))
                self.assertEqual(link.histories()[hand], (deed,))
                self.assertEqual(link.text(hand), "abcdefgh")
                self.assertEqual(link.kept(hand), run_signs(deed))
                self.assertEqual(link.sync(hand), 1)

    def test_hand(self):
        for hands in (2, 4):
            link = link_of(hands)
            link.do(0, PUT)
            for hand in (-1, hands, hands + 1):
                for act in (NOTE, ("put", None, ""), ("toggle", 9)):
                    self.check_refused(link, OutOfRange, "hand", "do", hand, act)
                for method in ("sync", "text", "kept", "is_open", "reopen"):
                    self.check_refused(link, OutOfRange, "hand", method, hand)
                for to in (-1, 0, 1, hands):
                    self.check_refused(link, OutOfRange, "hand", "send", hand, to)
                for torn in ([], [33], [-1]):
                    self.check_refused(link, OutOfRange, "hand", "cut_power", hand, torn)
                    for many in (-1, 0, 100001):
                        self.check_refused(link, OutOfRange, "hand", "schedule_cut", hand, many, torn)

    def test_what_houses_that_are_open_refuse(self):
        link = link_of()
        link.do(0, PUT)
        self.check_refused(link, OutOfRange, "act", "do", 0, ("put", None, ""))
        self.check_refused(link, NotAllowed, None, "do", 0, ("toggle", 1))
        link.do(0, ("leave",))
        for act in (NOTE, ("put", None, ""), ("toggle", 1)):
            self.check_refused(link, HasLeft, None, "do", 0, act)
        small = link_of(2, 2, 8)
        for _ in range(6):
            small.do(0, NOTE)
        self.check_refused(small, OutOfRange, "act", "do", 0, ("put", None, ""))
        self.check_refused(small, NotAllowed, None, "do", 0, ("toggle", 1))
        self.check_refused(small, LogFull, None, "do", 0, PUT)
        small.do(0, ("leave",))
        self.check_refused(small, HasLeft, None, "do", 0, PUT)

    def test_sync(self):
        link = link_of()
        self.assertEqual(link.sync(0), 0)
        link.do(0, NOTE)
        link.do(0, NOTE)
        self.assertEqual(link.sync(0), 2)
        link.do(0, NOTE)
        link.cut_power(0, [])
        self.assertEqual(link.reopen(0), 2)

    def test_lists_are_new(self):
        link = link_of()
        link.do(0, PUT)
        link.send(0, 1)
        before = state_of(link)
        for found in (link.letters(), link.histories(), link.kept(0)):
            self.assertIsInstance(found, list)
            found.append("changed by the caller")
            found[0] = None
        self.assertEqual(state_of(link), before)

    def test_kinds(self):
        link = link_of()
        link.do(0, PUT)
        self.assertIs(link.send(0, 1), True)
        letter = link.letters()[0]
        self.assertIsInstance(letter, tuple)
        self.assertIsInstance(letter[1], tuple)
        self.assertTrue(all(isinstance(history, tuple) for history in link.histories()))
        self.assertIsNone(link.duplicate(0))
        self.assertIsNone(link.drop(0))
        self.assertIsNone(link.schedule_cut(0, 0, []))
        self.assertIsNone(link.cut_power(0, []))
        self.assertIs(link.is_open(0), False)


class Letters(LinkCase):
    def three_letters(self):
        """Letters of hand 0 to 1 and to 2, and one of hand 1 to 0; the link and the deeds."""
        link = link_of()
        first, other = link.do(0, PUT), link.do(1, ("put", None, "xy"))
        for hand, to in ((0, 1), (0, 2), (1, 0)):
            self.assertIs(link.send(hand, to), True)
        return link, first, other

    def test_the_row_has_the_eldest_first(self):
        link, first, other = self.three_letters()
        self.assertEqual(link.letters(), [(1, (first,)), (2, (first,)), (0, (other,))])

    def test_a_letter_has_the_news_of_when_it_was_sent(self):
        link = link_of()
        first = link.do(0, PUT)
        link.send(0, 1)
        second = link.do(0, NOTE)
        link.send(0, 1)
        self.assertEqual(link.letters(), [(1, (first,)), (1, (first, second))])

    def test_nothing_new(self):
        link = link_of()
        self.assertIs(link.send(0, 1), False)
        link.do(1, NOTE)
        link.send(1, 0)
        link.deliver(0)
        self.assertIs(link.send(0, 1), False)
        self.assertEqual(link.letters(), [])
        self.assertIs(link.send(0, 2), True)

    def test_to(self):
        for hands in (2, 3, 4):
            link = link_of(hands)
            for hand in range(hands):
                link.do(hand, NOTE)
                for to in (-1, hand, hands, hands + 1):
                    self.check_refused(link, OutOfRange, "to", "send", hand, to)
            link.cut_power(0, [])
            for to in (-1, 0, hands):
                self.check_refused(link, OutOfRange, "to", "send", 0, to)
            for to in range(1, hands):
                self.check_refused(link, NotOpen, None, "send", 0, to)

    def test_sending_flushes(self):
        link, first, other = self.three_letters()
        for hand in range(3):
            link.cut_power(hand, [])
            link.reopen(hand)
        self.assertEqual(link.histories(), [(first,), (other,), ()])
        self.assertEqual(len(link.letters()), 3)

    def test_sending_to_a_house_that_is_not_open(self):
        link = link_of()
        deed = link.do(0, NOTE)
        link.cut_power(1, [])
        self.assertIs(link.send(0, 1), True)
        self.assertEqual(link.letters(), [(1, (deed,))])

    def test_the_power_is_cut_by_sending(self):
        link = link_of()
        link.do(0, NOTE)
        link.schedule_cut(0, 0, [])
        self.check_cut(link, "send", 0, 1)
        self.assertEqual((link.letters(), link.is_open(0)), ([], False))
        self.check_refused(link, NotOpen, None, "send", 0, 1)

    def test_delivered_in_any_order(self):
        for order in ((0, 0, 0), (2, 1, 0), (1, 0, 0), (0, 1, 0), (1, 1, 0), (2, 0, 0)):
            link, first, other = self.three_letters()
            for at in order:
                to, deeds = link.letters()[at]
                left = link.letters()[:at] + link.letters()[at + 1:]
                self.assertEqual(link.deliver(at), 1)
                self.assertEqual(link.letters(), left)
                self.assertEqual(link.histories()[to][-1:], deeds)
            self.assertEqual(link.histories(), [(first, other), (other, first), (first,)])
            self.assertEqual([link.text(hand) for hand in range(3)], ["xyabcdefgh", "xyabcdefgh", "abcdefgh"])

    def test_how_many_deeds_were_taken(self):
        link = link_of()
        link.do(0, NOTE)
        link.send(0, 1)
        link.do(0, NOTE)
        link.do(0, NOTE)
        link.send(0, 1)
        self.assertEqual((link.deliver(1), link.deliver(0)), (3, 0))
        self.assertEqual(link.letters(), [])

    def test_a_letter_that_comes_ahead_of_an_elder_one(self):
        link = link_of(2)
        first = link.do(0, NOTE)
        link.send(0, 1)
        link.deliver(0)
        reply = link.do(1, NOTE)
        link.send(1, 0)
        link.duplicate(0)
        link.deliver(0)
        second = link.do(0, NOTE)
        link.send(0, 1)
        link.deliver(1)
        third = link.do(1, NOTE)
        link.send(1, 0)
        # What hand 0 acknowledged is not in the later letter any more.
        self.assertEqual(link.letters(), [(0, (reply,)), (0, (third,))])
        self.assertEqual((link.deliver(1), link.deliver(0)), (1, 0))
        self.assertEqual(link.histories()[0], (first, reply, second, third))

    def test_what_was_heard_and_lost_comes_again(self):
        link = link_of(2)
        first = link.do(0, NOTE)
        link.send(0, 1)
        link.deliver(0)
        reply = link.do(1, NOTE)
        link.send(1, 0)
        link.duplicate(0)
        self.assertEqual(link.deliver(0), 1)
        # Hand 0 loses the reply, and takes it once more from the second letter.
        link.cut_power(0, [])
        self.assertEqual(link.reopen(0), 1)
        self.assertEqual(link.deliver(0), 1)
        self.assertEqual(link.histories()[0], (first, reply))

    def test_drop(self):
        for at in range(3):
            link, first, other = self.three_letters()
            left = link.letters()[:at] + link.letters()[at + 1:]
            histories = link.histories()
            link.drop(at)
            self.assertEqual((link.letters(), link.histories()), (left, histories))

    def test_what_is_dropped_is_sent_again(self):
        link, first, other = self.three_letters()
        link.drop(0)
        self.assertIs(link.send(0, 1), True)
        self.assertEqual(link.letters()[-1], (1, (first,)))

    def test_duplicate(self):
        for at in range(3):
            link, first, other = self.three_letters()
            before = link.letters()
            link.duplicate(at)
            self.assertEqual(link.letters(), before + [before[at]])
            to = before[at][0]
            self.assertEqual(link.deliver(3), 1)
            histories = link.histories()
            self.assertEqual(link.letters(), before)
            self.assertEqual(link.deliver(at), 0)
            self.assertEqual((link.histories(), len(histories[to])), (histories, 2 if to < 2 else 1))

    def test_no_letter(self):
        empty = link_of()
        link, first, other = self.three_letters()
        for method in ("drop", "duplicate", "deliver"):
            for at in (-1, 0, 1):
                self.check_refused(empty, NoLetter, None, method, at)
            for at in (-1, -3, 3, 4):
                self.check_refused(link, NoLetter, None, method, at)
        link.drop(2)
        for method in ("drop", "duplicate", "deliver"):
            self.check_refused(link, NoLetter, None, method, 2)

    def test_a_letter_for_a_house_that_is_not_open_is_lost(self):
        link, first, other = self.three_letters()
        link.cut_power(1, [])
        histories = link.histories()
        self.assertEqual(link.deliver(0), 0)
        self.assertEqual(link.letters(), [(2, (first,)), (0, (other,))])
        self.assertEqual(link.histories(), histories)
        link.reopen(1)
        # Hand 1 did not acknowledge it, so that it is sent again.
        self.assertIs(link.send(0, 1), True)
        self.assertEqual(link.deliver(2), 1)

    def test_full(self):
        link = link_of(2, 2, 8)
        for _ in range(4):
            link.do(0, NOTE)
        link.send(0, 1)
        for _ in range(4):
            link.do(1, NOTE)
        link.duplicate(0)
        histories, letters = link.histories(), link.letters()
        with self.assertRaises(LogFull):
            link.deliver(0)
        self.assertEqual((link.letters(), link.histories()), (letters[1:], histories))
        self.assertIs(link.is_open(1), True)
        with self.assertRaises(LogFull):
            link.deliver(0)
        self.assertEqual((link.letters(), link.histories()), ([], histories))

    def test_the_power_is_cut_by_delivering(self):
        for at in range(2):
            link = link_of(2)
            link.do(0, NOTE)
            link.do(0, NOTE)
            own = link.do(1, NOTE)
            link.sync(1)
            link.send(0, 1)
            link.duplicate(0)
            letters = link.letters()
            link.schedule_cut(1, at, [])
            self.check_cut(link, "deliver", 0)
            self.assertEqual(link.letters(), letters[1:])
            self.assertIs(link.is_open(1), False)
            self.assertEqual(link.histories()[1], (own,))
            self.assertEqual(link.deliver(0), 0)
            self.assertEqual(link.reopen(1), 1)


class Cuts(LinkCase):
    def test_one_is_closed_and_the_others_go_on(self):
        for hands in (2, 3, 4):
            link = link_of(hands)
            for hand in range(hands):
                link.do(hand, PUT)
            histories = link.histories()
            link.cut_power(1, [])
            self.assertEqual([link.is_open(hand) for hand in range(hands)], [hand != 1 for hand in range(hands)])
            self.assertEqual(link.histories(), histories)
            for hand in set(range(hands)) - {1}:
                link.do(hand, NOTE)
                self.assertEqual(link.text(hand), "abcdefgh")
                self.assertEqual(link.sync(hand), 2)
                self.assertIs(link.send(hand, 1), True)
            self.check_closed(link, 1)

    def check_closed(self, link, hand):
        for act in (NOTE, ("put", None, ""), ("toggle", 77)):
            self.check_refused(link, NotOpen, None, "do", hand, act)
        for method in ("sync", "text", "kept"):
            self.check_refused(link, NotOpen, None, method, hand)
        self.check_refused(link, NotOpen, None, "send", hand, 0 if hand > 0 else 1)

    def test_a_scheduled_cut_of_each_call(self):
        for method, arguments in (("do", (0, NOTE)), ("sync", (0,)), ("send", (0, 1)), ("reopen", (0,)), ("deliver", (0,))):
            link = link_of()
            link.do(1, NOTE)
            link.send(1, 0)
            link.do(0, PUT)
            before = link.histories()
            link.schedule_cut(0, 0, [])
            self.check_cut(link, method, *arguments)
            self.assertEqual([link.is_open(hand) for hand in range(3)], [False, True, True])
            self.assertEqual(link.histories(), before)
            self.check_closed(link, 0)
            link.do(1, NOTE)
            self.assertEqual(link.reopen(0), 0)

    def test_a_schedule_counts_the_writes_of_this_hand_only(self):
        link = link_of()
        link.schedule_cut(0, 2, [])
        for _ in range(5):
            link.do(1, NOTE)
            link.sync(2)
        link.do(0, NOTE)
        link.sync(0)
        self.check_cut(link, "do", 0, NOTE)
        self.assertEqual([link.is_open(hand) for hand in range(3)], [False, True, True])

    def test_torn_and_many(self):
        link = link_of()
        for torn in ([-1], [33], [0, 32, 33]):
            self.check_refused(link, OutOfRange, "torn", "cut_power", 0, torn)
            self.check_refused(link, OutOfRange, "torn", "schedule_cut", 0, 5, torn)
            for many in (-1, 100001):
                self.check_refused(link, OutOfRange, "many", "schedule_cut", 0, many, torn)
        for many in (-1, 100001):
            self.check_refused(link, OutOfRange, "many", "schedule_cut", 0, many, [])
        link.schedule_cut(0, 100000, [0, 32])
        self.assertIs(link.is_open(0), True)

    def test_torn_as_it_was_passed(self):
        for torn, many in (([], 0), ([32], 1), ([32, 31], 1), ([32, 32], 2), ([31, 32], 0), ([32, 32, 32], 3)):
            link = link_of()
            for _ in range(3):
                link.do(0, NOTE)
            given = list(torn)
            link.cut_power(0, torn)
            self.assertEqual(torn, given)
            self.assertEqual(link.reopen(0), many)

    def test_cut_twice(self):
        link = link_of()
        link.do(0, NOTE)
        link.sync(0)
        link.cut_power(0, [])
        link.cut_power(0, [32])
        self.assertIs(link.is_open(0), False)
        self.assertEqual(link.reopen(0), 1)
        self.assertIs(link.is_open(0), True)


class Reopens(LinkCase):
    def test_one_that_is_open(self):
        link = link_of()
        deed = link.do(0, PUT)
        self.assertEqual(link.reopen(0), 1)
        self.assertIs(link.is_open(0), True)
        self.assertEqual(link.histories()[0], (deed,))
        # What was not flushed is flushed by it.
        link.cut_power(0, [])
        self.assertEqual(link.reopen(0), 1)
        self.assertEqual(link.do(0, NOTE), (0, 1, 2, (1, 0, 0), NOTE))

    def test_one_that_is_not_open(self):
        link = link_of()
        put = link.do(0, PUT)
        link.sync(0)
        lost = link.do(0, NOTE)
        link.cut_power(0, [])
        self.assertEqual(link.histories()[0], (put, lost))
        self.assertEqual(link.reopen(0), 1)
        self.assertIs(link.is_open(0), True)
        self.assertEqual((link.histories()[0], link.text(0)), ((put,), "abcdefgh"))
        self.assertEqual(link.kept(0), run_signs(put))
        cut = ("cut", (sign_of(put, 1),))
        self.assertEqual(link.do(0, cut), (0, 1, 2, (1, 0, 0), cut))

    def test_it_is_cut_itself(self):
        for torn in TORN:
            for at in range(3):
                link = link_of(2, 2, 8)
                put = link.do(0, PUT)
                link.sync(0)
                lost = link.do(0, NOTE)
                link.cut_power(0, [])
                for many in (at, 5, 0):
                    link.schedule_cut(0, many, torn)
                    self.check_cut(link, "reopen", 0)
                    self.assertIs(link.is_open(0), False)
                    self.assertEqual(link.histories()[0], (put, lost))
                    self.check_refused(link, NotOpen, None, "do", 0, NOTE)
                self.assertEqual(link.reopen(0), 1)
                self.assertEqual(link.histories()[0], (put,))

    def test_an_open_one_that_is_cut_by_it(self):
        link = link_of()
        put = link.do(0, PUT)
        link.schedule_cut(0, 3, [32, 32])
        self.check_cut(link, "reopen", 0)
        self.assertIs(link.is_open(0), False)
        self.assertEqual(link.histories()[0], (put,))
        self.check_refused(link, NotOpen, None, "text", 0)
        self.assertEqual(link.reopen(0), 1)

    def test_the_letters_and_the_others_stay(self):
        link = link_of()
        first = link.do(0, PUT)
        link.send(0, 1)
        link.send(0, 2)
        link.do(2, NOTE)
        before = (link.letters(), link.histories()[1:])
        link.cut_power(0, [])
        link.reopen(0)
        self.assertEqual((link.letters(), link.histories()[1:]), before)
        self.assertEqual(link.deliver(0), 1)
        self.assertEqual(link.histories()[1], (first,))

    def test_a_schedule_that_is_left_over_goes_on(self):
        link = link_of(2, 2, 8)
        link.schedule_cut(0, 9, [])
        # Seven zeros and the flush, then one write.
        self.assertEqual(link.reopen(0), 0)
        link.do(0, NOTE)
        self.check_cut(link, "do", 0, NOTE)


if __name__ == "__main__":
    unittest.main()
