"""textatrest.house: House (points 14 to 18, 30 and 31 of the document)."""

import copy
import random
import unittest

from handling import drawn_hands, hands_of
from making import random_act, run_signs, sign_of
from storing import TORN, disk_with, image_of, padded, plain_log, plain_need
from textatrest.disks import Disk
from textatrest.errors import HasLeft, LogFull, NotAllowed, NotKept, NotOpen, OutOfRange, PowerCut, RestError
from textatrest.hands import Hand
from textatrest.house import House
from textatrest.log import format_disk, open_log

NOTE = ("note",)


def house_of(size=60, hands=2, number=0, bound=2):
    """A disk, and the house on it."""
    disk = Disk(size)
    format_disk(disk, hands, number, bound)
    return disk, House(disk)


def others_deeds(many):
    """So many notes of hand 1 of two."""
    hand = Hand(2, 1, 2)
    return [hand.note() for _ in range(many)]


def state_of(house):
    return (
        house.history(), house.version(), house.text(), house.shown(), house.kept(), house.has_left(),
        house.free_blocks(),
    )


def told(call, *arguments):
    """What the call returns, or which error it raises with which name."""
    try:
        return call(*arguments)
    except RestError as e:
        return (type(e).__name__, getattr(e, "name", None))


class HouseCase(unittest.TestCase):
    def check_refused(self, disk, house, error, name, method, *arguments):
        """The call raises exactly this error, and changes nothing in the house and on the disk."""
        before, given = (state_of(house), image_of(disk), disk.pending_count()), copy.deepcopy(arguments)
        with self.subTest(method=method, arguments=arguments):
            with self.assertRaises(error) as e:
                getattr(house, method)(*arguments)
            self.assertIs(type(e.exception), error)
            if name is not None:
                self.assertEqual(e.exception.name, name)
            self.assertEqual((state_of(house), image_of(disk), disk.pending_count()), before)
            self.assertEqual(arguments, given)

    def check_log(self, disk, head, history):
        """The disk, as it is read, has the log of this history."""
        self.assertEqual(image_of(disk), padded(plain_log(head, history), disk.size()))

    def check_same(self, house, hand):
        """The house tells of its hand what this one tells."""
        self.assertEqual(state_of(house)[:6], (
            hand.history(), hand.version(), hand.text(), hand.shown(), hand.kept(), hand.has_left(),
        ))


class Opens(HouseCase):
    def test_without_deeds(self):
        for hands in (2, 3, 4):
            for number in range(hands):
                disk, house = house_of(8, hands, number, 1)
                self.check_same(house, Hand(hands, number, 1))
                self.assertEqual(house.free_blocks(), 7)

    def test_with_the_deeds_of_the_log(self):
        for seed in range(12):
            hands = drawn_hands(seed, 40)
            for hand in hands:
                head = (len(hands), hand.number(), seed % 5)
                disk = disk_with(plain_log(head, hand.history()), 400)
                house = House(disk)
                self.check_same(house, hand)
                for other in set(range(len(hands))) - {hand.number()}:
                    self.assertEqual(house.news(other), hand.news(other))
                self.assertEqual(house.do(NOTE), hand.note())

    def test_not_kept(self):
        for blocks in ([], [[255] * 32] * 8, [[0] * 32] + plain_log((2, 0, 1), others_deeds(2))):
            disk = disk_with(blocks, 8)
            with self.assertRaises(NotKept):
                House(disk)
            self.assertEqual(image_of(disk), padded(blocks, 8))

    def test_the_opening_is_cut(self):
        for at in range(8):
            for torn in TORN:
                disk, house = house_of(8)
                house.do(NOTE)
                house.sync()
                disk.schedule_cut(at, torn)
                if at < 7:
                    with self.assertRaises(PowerCut):
                        House(disk)
                    disk.schedule_cut(100000, [])
                self.assertEqual(House(disk).history(), house.history())

    def test_the_next_deed_has_the_next_number_and_nothing_waits(self):
        disk, house = house_of()
        house.do(("put", None, "abc"))
        deeds = others_deeds(3)
        self.assertEqual(house.hear([deeds[0], deeds[2]]), deeds[:1])
        house.sync()
        disk.cut_power([])
        newer = House(disk)
        self.assertEqual(newer.version(), (1, 1))
        # What waited is lost, so that it is not taken when what was missing comes.
        self.assertEqual(newer.hear([deeds[1]]), [deeds[1]])
        self.assertEqual(newer.hear([deeds[2]]), [deeds[2]])
        self.assertEqual(newer.do(NOTE), (0, 1, 4, (1, 3), NOTE))

    def test_own_deeds_that_were_lost_are_done_anew(self):
        disk, house = house_of()
        first = house.do(("put", None, "abc"))
        house.sync()
        house.do(("put", None, "lost"))
        disk.cut_power([])
        newer = House(disk)
        self.assertEqual(newer.history(), (first,))
        self.assertEqual(newer.do(("put", None, "new")), (0, 1, 2, (1, 0), ("put", None, "new")))
        self.assertEqual(newer.text(), "newabc")

    def test_another_house_on_the_same_disk_while_one_is_open(self):
        disk, house = house_of()
        house.do(("put", None, "abc"))
        newer = House(disk)
        self.assertEqual(newer.history(), house.history())
        self.assertEqual(disk.pending_count(), 0)


class AsTheHand(HouseCase):
    def test_drawn_courses(self):
        errors, taken = {}, 0
        for seed in range(20):
            source = random.Random(seed)
            bound = seed % 5
            hands = hands_of(2 + seed % 3, bound)
            hand, others = hands[0], hands[1:]
            disk, house = house_of(400, len(hands), 0, bound)
            for step in range(60):
                other = source.choice(others)
                word = source.choice(("do", "do", "wrong", "hear", "hear", "news", "other", "other"))
                if word == "do":
                    act = random_act(source, hand.history(), bound, 0)
                    self.assertEqual(house.do(act), hand.do(act))
                if word == "wrong":
                    act = self.wrong_act(source)
                    found = told(copy.deepcopy(hand).do, act)
                    if isinstance(found[0], str):
                        self.assertEqual(told(house.do, act), found)
                        errors[found] = True
                if word == "hear" and other.history():
                    deeds = source.choices(other.history(), k=source.randint(0, 6))
                    found = hand.hear(deeds)
                    self.assertEqual(house.hear(source.choice((list, tuple))(deeds)), found)
                    taken += len(found)
                if word == "news":
                    self.assertEqual(told(house.news, other.number()), told(hand.news, other.number()))
                    other.hear(hand.news(other.number()))
                if word == "other":
                    other.do(random_act(source, other.history(), bound, other.number()))
                self.check_same(house, hand)
            self.check_log(disk, (len(hands), 0, bound), hand.history())
            self.assertEqual(house.sync(), len(hand.history()))
            disk.cut_power([])
            self.check_same(House(disk), hand)
        self.assertEqual(sorted(errors, key=str), [("NotAllowed", None), ("OutOfRange", "act")])
        self.assertGreater(taken, 100)

    def wrong_act(self, source):
        return source.choice((
            ("put", None, ""), ("put", None, "abcdefghi"), ("cut", ()), ("toggle", -1), ("toggle", 999),
            ("put", (0, 999, 0), "x"), ("cut", ((0, 0, 99),)), ("mark", (1, 99, 0), (1, 99, 0), "b"),
            ("mark", (0, 0, 0), (0, 0, 0), "B"),
        ))

    def test_acts_of_each_kind(self):
        disk, house = house_of()
        put = house.do(("put", None, "abcdefgh"))
        self.assertEqual(put, (0, 0, 1, (0, 0), ("put", None, "abcdefgh")))
        signs = run_signs(put)
        self.assertEqual(house.do(("cut", tuple(signs[:4]))), (0, 1, 2, (1, 0), ("cut", tuple(signs[:4]))))
        mark = ("mark", signs[4], signs[5], "b")
        self.assertEqual(house.do(mark), (0, 2, 3, (2, 0), mark))
        self.assertEqual(house.do(("toggle", 1)), (0, 3, 4, (3, 0), ("toggle", 1)))
        self.assertEqual(house.do(NOTE), (0, 4, 5, (4, 0), NOTE))
        self.assertEqual(house.do(("leave",)), (0, 5, 6, (5, 0), ("leave",)))
        self.assertIs(house.has_left(), True)
        self.check_log(disk, (2, 0, 2), house.history())

    def test_what_is_refused(self):
        disk, house = house_of()
        put = house.do(("put", None, "abc"))
        for act in (("put", None, ""), ("cut", ()), ("toggle", -1)):
            self.check_refused(disk, house, OutOfRange, "act", "do", act)
        for act in (("toggle", 1), ("put", (1, 0, 0), "x"), ("cut", (sign_of(put, 3),))):
            self.check_refused(disk, house, NotAllowed, None, "do", act)
        for hand in (-1, 0, 2):
            self.check_refused(disk, house, OutOfRange, "hand", "news", hand)
        house.do(("leave",))
        for act in (NOTE, ("put", None, ""), ("toggle", 1)):
            self.check_refused(disk, house, HasLeft, None, "do", act)
        self.assertEqual(house.hear(others_deeds(2)), others_deeds(2))

    def test_lists_are_new_and_arguments_stay_as_they_were(self):
        disk, house = house_of()
        house.do(("put", None, "abc"))
        deeds = others_deeds(3)
        passed = [deeds[2], deeds[0]]
        taken = house.hear(passed)
        self.assertEqual(passed, [deeds[2], deeds[0]])
        before = state_of(house)
        for found in (taken, passed, house.shown(), house.kept()):
            self.assertIsInstance(found, list)
            found.clear()
        self.assertEqual(state_of(house), before)
        self.assertEqual(house.hear([deeds[1]]), deeds[1:])
        self.assertIsInstance(house.news(1), tuple)

    def test_deeds_are_appended_when_they_are_taken(self):
        disk, house = house_of()
        deeds = others_deeds(4)
        house.hear([deeds[1], deeds[2]])
        self.check_log(disk, (2, 0, 2), [])
        own = house.do(NOTE)
        self.check_log(disk, (2, 0, 2), [own])
        house.hear([deeds[0]])
        self.check_log(disk, (2, 0, 2), [own, *deeds[:3]])
        house.hear(deeds)
        self.check_log(disk, (2, 0, 2), [own, *deeds])
        self.assertEqual(disk.pending_count(), 5)


class Flushes(HouseCase):
    def test_sync_tells_how_many_deeds_there_are(self):
        disk, house = house_of()
        self.assertEqual(house.sync(), 0)
        house.do(NOTE)
        house.hear(others_deeds(3))
        self.assertEqual(disk.pending_count(), 4)
        self.assertEqual(house.sync(), 4)
        self.assertEqual(disk.pending_count(), 0)
        self.assertEqual(house.sync(), 4)

    def test_news_flush_if_there_are_any(self):
        disk, house = house_of()
        deed = house.do(NOTE)
        self.assertEqual(house.news(1), (deed,))
        self.assertEqual(disk.pending_count(), 0)
        disk.schedule_cut(1, [])
        self.assertEqual(house.news(1), (deed,))
        with self.assertRaises(PowerCut):
            house.news(1)

    def test_no_news_do_not_flush(self):
        disk, house = house_of(60, 3, 0, 2)
        one = Hand(3, 1, 2)
        house.hear([one.note()])
        self.assertEqual(disk.pending_count(), 1)
        disk.schedule_cut(0, [])
        self.assertEqual(house.news(1), ())
        self.assertEqual((disk.pending_count(), disk.cut_count()), (1, 0))
        with self.assertRaises(PowerCut):
            house.news(2)

    def test_refused_news_do_not_flush(self):
        disk, house = house_of()
        house.do(NOTE)
        disk.schedule_cut(0, [])
        for hand in (-1, 0, 2):
            self.check_refused(disk, house, OutOfRange, "hand", "news", hand)
        self.assertEqual((disk.pending_count(), disk.cut_count()), (1, 0))

    def test_what_others_have_heard_is_in_every_later_log(self):
        for torn in TORN:
            disk, house = house_of()
            first = house.do(("put", None, "abc"))
            house.hear(others_deeds(2))
            news = house.news(1)
            self.assertEqual(news, (first,))
            house.do(NOTE)
            disk.cut_power(torn)
            self.assertEqual(House(disk).history()[:3], (first, *others_deeds(2)))


class Closed(HouseCase):
    def check_closed(self, disk, house, history):
        for act in (NOTE, ("put", None, ""), ("toggle", 77), ("leave",)):
            self.check_refused(disk, house, NotOpen, None, "do", act)
        for deeds in ([], others_deeds(5), ()):
            self.check_refused(disk, house, NotOpen, None, "hear", deeds)
        for hand in (-1, 0, 1, 2):
            self.check_refused(disk, house, NotOpen, None, "news", hand)
        self.check_refused(disk, house, NotOpen, None, "sync")
        hand = Hand(2, 0, 2)
        hand.take_all(history)
        self.check_same(house, hand)

    def test_after_a_cut(self):
        for torn in ([], [32] * 9):
            disk, house = house_of()
            house.do(("put", None, "abc"))
            house.hear(others_deeds(2))
            history = house.history()
            disk.cut_power(torn)
            self.check_closed(disk, house, history)
            House(disk).do(NOTE)
            self.check_closed(disk, house, history)

    def test_not_open_is_told_ahead_of_has_left_and_of_full(self):
        disk, house = house_of(8)
        for _ in range(6):
            house.do(NOTE)
        house.do(("leave",))
        history = house.history()
        disk.cut_power([32] * 9)
        self.check_closed(disk, house, history)

    def test_of_a_house_without_deeds(self):
        disk, house = house_of()
        disk.cut_power([])
        self.check_closed(disk, house, ())


class Full(HouseCase):
    def test_do_at_the_last_block_exactly(self):
        disk, house = house_of(8)
        for at in range(7):
            self.assertEqual(house.free_blocks(), 7 - at)
            house.do(NOTE)
        self.assertEqual(house.free_blocks(), 0)
        self.check_refused(disk, house, LogFull, None, "do", NOTE)
        self.check_refused(disk, house, LogFull, None, "do", ("leave",))
        self.check_refused(disk, house, LogFull, None, "hear", others_deeds(1))
        self.assertEqual(house.hear([]), [])
        self.assertEqual(house.sync(), 7)
        self.assertEqual(len(house.news(1)), 7)

    def test_do_of_a_deed_of_two_blocks(self):
        disk, house = house_of(8)
        put = ("put", None, "abcdefgh")
        for _ in range(6):
            house.do(NOTE)
        self.assertEqual(plain_need((0, 6, 7, (6, 0), put)), 2)
        self.check_refused(disk, house, LogFull, None, "do", put)
        self.assertEqual(house.do(("leave",)), (0, 6, 7, (6, 0), ("leave",)))

    def test_full_is_told_behind_the_errors_of_the_hand(self):
        disk, house = house_of(8)
        for _ in range(6):
            house.do(NOTE)
        house.hear(others_deeds(1))
        for act in (("put", None, ""), ("cut", ()), ("toggle", -1)):
            self.check_refused(disk, house, OutOfRange, "act", "do", act)
        for act in (("toggle", 0), ("put", (1, 0, 0), "x")):
            self.check_refused(disk, house, NotAllowed, None, "do", act)
        self.check_refused(disk, house, LogFull, None, "do", ("put", None, "x"))
        disk, house = house_of(8)
        for _ in range(6):
            house.do(NOTE)
        house.do(("leave",))
        self.check_refused(disk, house, HasLeft, None, "do", NOTE)

    def test_hear_with_room_for_some_only(self):
        for own in range(8):
            disk, house = house_of(8)
            for _ in range(own):
                house.do(NOTE)
            for many in range(8 - own, 10):
                self.check_refused(disk, house, LogFull, None, "hear", others_deeds(many))
            fine = others_deeds(7 - own)
            # None of those was heard, so that none of them waits.
            self.assertEqual(house.hear(fine[1:]), [])
            self.assertEqual(house.hear(fine[:1]), fine)
            self.assertEqual(house.free_blocks(), 0)
            self.check_log(disk, (2, 0, 2), house.history())

    def test_what_waits_and_what_is_there_needs_no_room(self):
        disk, house = house_of(8)
        deeds = others_deeds(40)
        self.assertEqual(house.hear(deeds[:7]), deeds[:7])
        self.assertEqual(house.free_blocks(), 0)
        self.assertEqual(house.hear(deeds[:7] + deeds[8:]), [])
        self.check_refused(disk, house, LogFull, None, "hear", deeds[7:8])
        self.assertEqual(house.hear(deeds[8:]), [])

    def test_what_waits_needs_room_with_what_was_missing(self):
        disk, house = house_of(8)
        deeds = others_deeds(9)
        self.assertEqual(house.hear(deeds[1:8]), [])
        self.check_refused(disk, house, LogFull, None, "hear", deeds[:1])
        self.assertEqual(house.free_blocks(), 7)
        self.assertEqual(house.hear(deeds[8:]), [])
        self.check_refused(disk, house, LogFull, None, "hear", deeds)

    def test_the_blocks_count_not_the_deeds(self):
        hand = Hand(2, 1, 2)
        deeds = [hand.put(0, "abcdefgh") for _ in range(4)]
        self.assertEqual([plain_need(deed) for deed in deeds], [2] * 4)
        disk, house = house_of(8)
        self.check_refused(disk, house, LogFull, None, "hear", deeds)
        self.assertEqual(house.hear(deeds[:3]), deeds[:3])
        self.assertEqual(house.free_blocks(), 1)


class Cuts(HouseCase):
    """The power is cut at every write and flush of a course of calls."""

    def course(self):
        one = Hand(2, 1, 2)
        theirs = [one.put(0, "abcdefgh"), one.note(), one.cut(2, 6)]
        put = ("put", None, "ijklmnop")
        return (
            ("do", put), ("hear", theirs[:1]), ("news", 1), ("do", ("put", sign_of(theirs[0], 7), "xy")),
            ("hear", theirs[1:]), ("do", ("toggle", 0)), ("sync",), ("do", NOTE), ("news", 1),
        )

    def run_course(self, house):
        """The histories ahead of each call, and how many deeds were flushed for certain; up to the cut."""
        flushed = 0
        for method, *arguments in self.course():
            before = house.history()
            try:
                getattr(house, method)(*arguments)
            except PowerCut:
                # The call that is cut changes nothing in this house.
                self.assertEqual(house.history(), before)
                return method, arguments, before, flushed
            if method in ("news", "sync"):
                flushed = len(house.history())
        return None, None, house.history(), flushed

    def whole_history(self):
        disk, house = house_of()
        self.run_course(house)
        return house.history()

    def test_at_every_write_and_flush(self):
        whole, cut = self.whole_history(), {}
        operations = sum([plain_need(deed) for deed in whole]) + 3
        for at in range(operations + 1):
            for torn in TORN:
                disk, house = house_of()
                disk.schedule_cut(at, torn)
                method, arguments, before, flushed = self.run_course(house)
                cut[method] = True
                if at == operations:
                    self.assertEqual((method, before), (None, whole))
                    continue
                self.check_cut(disk, house, method, arguments, before, whole)
                found = House(disk).history()
                self.assertEqual(found, whole[:len(found)])
                taken = len(arguments[0]) if method == "hear" else 1
                self.assertTrue(flushed <= len(found) <= len(before) + taken)
        self.assertEqual(sorted(cut, key=str), [None, "do", "hear", "news", "sync"])

    def check_cut(self, disk, house, method, arguments, before, whole):
        """The house is closed, and shows what it showed ahead of the call that was cut."""
        self.assertEqual(before, whole[:len(before)])
        self.assertEqual((house.history(), disk.pending_count()), (before, 0))
        hand = Hand(2, 0, 2)
        hand.take_all(before)
        self.check_same(house, hand)
        for call, given in (("do", [NOTE]), ("hear", [[]]), ("news", [1]), ("sync", []), (method, arguments)):
            self.check_refused(disk, house, NotOpen, None, call, *given)

    def test_going_on_after_each_cut_leads_to_the_same(self):
        theirs = self.course()[1][1] + self.course()[4][1]
        for torn in TORN:
            for gap in range(1, 14):
                disk, house = house_of()
                disk.schedule_cut(gap, torn)
                self.run_course(house)
                disk.schedule_cut(100000, [])
                again = House(disk)
                # What came from the other hand comes again, and is taken where it was lost.
                again.hear(theirs)
                self.assertEqual(again.version()[1], 3)
                again.sync()
                disk.cut_power([])
                self.assertEqual(House(disk).history(), again.history())

    def test_the_deed_of_a_cut_do_may_be_there_after_the_next_opening(self):
        for torn, there in (([], False), ([32], False), ([32, 31], False), ([32, 32], True)):
            disk, house = house_of()
            house.sync()
            put = ("put", None, "abcdefgh")
            house.do(put)
            disk.schedule_cut(0, torn)
            with self.assertRaises(PowerCut):
                house.do(NOTE)
            self.assertEqual(len(House(disk).history()), 1 if there else 0)
            # A cut in the middle of a record leaves nothing of it.
            disk, house = house_of()
            disk.schedule_cut(1, torn)
            with self.assertRaises(PowerCut):
                house.do(put)
            self.assertEqual((house.history(), House(disk).history()), ((), ()))

    def test_the_log_of_a_cut_house_is_a_beginning_also_for_open_log(self):
        disk, house = house_of()
        for _ in range(4):
            house.do(NOTE)
        history = house.history()
        disk.cut_power([32, 32, 0, 32])
        self.assertEqual(open_log(disk).deeds(), list(history[:2]))


if __name__ == "__main__":
    unittest.main()
