"""textatrest.log: format_disk, open_log and Log (points 28, 29 and 31 of the document)."""

import random
import unittest

from making import Text, other_order, random_texts, sign_of
from storing import ZEROS, disk_with, image_of, padded, plain_blocks, plain_fits, plain_form, plain_log, plain_need
from textatrest.disks import Disk
from textatrest.errors import LogFull, NotKept, NotOpen, OutOfRange, PowerCut
from textatrest.log import format_disk, open_log

NOTE = ("note",)


def notes(many, hand=0):
    made = Text(2)
    return [made.do(hand, NOTE) for _ in range(many)]


def some_deeds():
    """Deeds of two hands, each kind among them, that fit one behind the other with the bound 1."""
    made = Text(2, 1)
    put = made.do(0, ("put", None, "abcdefgh"))
    made.hear(1, 0)
    made.do(1, ("put", sign_of(put, 7), " x: "))
    made.do(1, ("cut", tuple([sign_of(put, index) for index in range(4)])))
    made.hear(0, 1)
    made.do(0, ("mark", sign_of(put, 4), sign_of(put, 5), "bold"))
    made.do(0, ("toggle", 1))
    made.do(0, NOTE)
    made.hear_all()
    made.do(1, ("leave",))
    made.hear_all()
    return list(made.histories[0])


def formatted(size, head=(2, 0, 1)):
    disk = Disk(size)
    format_disk(disk, *head)
    return disk


def log_with(size, deeds, head=(2, 0, 1)):
    """A disk, and its log with these deeds, that are flushed."""
    disk = formatted(size, head)
    log = open_log(disk)
    for deed in deeds:
        log.append(deed)
    log.sync()
    return disk, log


class LogCase(unittest.TestCase):
    def check_flushed(self, disk, blocks):
        """The disk has these blocks, also if the power is cut now."""
        self.assertEqual(disk.pending_count(), 0)
        self.assertEqual(image_of(disk), blocks)
        disk.cut_power([])
        self.assertEqual(image_of(disk), blocks)

    def check_opened(self, disk, head, deeds):
        """The disk has this log and zeros behind it; opened again it gives the same."""
        blocks = plain_log(head, deeds)
        for _ in range(2):
            log = open_log(disk)
            self.assertEqual((log.head(), log.deeds()), (head, list(deeds)))
            self.assertEqual(log.free_blocks(), disk.size() - len(blocks))
            self.check_flushed(disk, padded(blocks, disk.size()))


class Formats(LogCase):
    def test_every_block(self):
        for head, text in (((2, 0, 4), "hands 2 0 4"), ((3, 2, 0), "hands 3 2 0"), ((4, 3, 1), "hands 4 3 1")):
            for size in (8, 9, 400):
                disk = Disk(size)
                self.assertIsNone(format_disk(disk, *head))
                self.check_flushed(disk, padded(plain_blocks(0, text), size))

    def test_what_was_there_is_gone(self):
        disk = disk_with([[255] * 32] * 12, 12)
        disk.write(3, [7] * 32)
        format_disk(disk, 2, 1, 3)
        self.check_flushed(disk, padded(plain_blocks(0, "hands 2 1 3"), 12))
        disk, log = log_with(20, notes(5))
        format_disk(disk, 2, 0, 1)
        self.check_opened(disk, (2, 0, 1), [])

    def test_each_head(self):
        for hands in (2, 3, 4):
            for number in range(hands):
                for bound in range(5):
                    self.check_opened(formatted(8, (hands, number, bound)), (hands, number, bound), [])

    def check_refused(self, name, *head):
        disk = disk_with([[255] * 32], 8)
        disk.write(2, [7] * 32)
        before = image_of(disk)
        with self.subTest(head=head):
            with self.assertRaises(OutOfRange) as told:
                format_disk(disk, *head)
            self.assertEqual(told.exception.name, name)
            self.assertEqual((image_of(disk), disk.pending_count(), disk.cut_count()), (before, 1, 0))

    def test_refused(self):
        for hands in (-1, 0, 1, 5):
            for number, bound in ((0, 0), (-1, 0), (5, 5), (0, 5)):
                self.check_refused("hands", hands, number, bound)
        for hands in (2, 3, 4):
            for number in (-1, hands):
                for bound in (-1, 0, 4, 5):
                    self.check_refused("number", hands, number, bound)
            for bound in (-1, 5):
                self.check_refused("bound", hands, hands - 1, bound)

    def test_the_disk_is_written_once_and_flushed_once(self):
        disk = Disk(9)
        disk.schedule_cut(10, [])
        format_disk(disk, 2, 0, 1)
        with self.assertRaises(PowerCut):
            disk.flush()


class Opens(LogCase):
    def test_empty_logs(self):
        self.check_opened(formatted(8), (2, 0, 1), [])

    def test_logs_with_deeds(self):
        deeds = some_deeds()
        for many in range(len(deeds) + 1):
            self.check_opened(disk_with(plain_log((2, 0, 1), deeds[:many]), 40), (2, 0, 1), deeds[:many])

    def test_logs_that_fill_the_disk(self):
        deeds = some_deeds()
        blocks = plain_log((2, 1, 1), deeds)
        disk = disk_with(blocks, len(blocks))
        self.check_opened(disk, (2, 1, 1), deeds)
        self.assertEqual(open_log(disk).free_blocks(), 0)

    def test_logs_of_drawn_texts(self):
        for made in random_texts(20, 40):
            for own, history in enumerate(made.histories):
                blocks = plain_log((made.hands, own, made.bound), history)
                self.check_opened(disk_with(blocks, 400), (made.hands, own, made.bound), history)

    def test_what_waits_to_be_written_is_read_and_flushed(self):
        disk = formatted(10)
        log, deeds = open_log(disk), notes(3)
        for deed in deeds:
            log.append(deed)
        self.assertEqual(open_log(disk).deeds(), deeds)
        self.check_flushed(disk, padded(plain_log((2, 0, 1), deeds), 10))

    def test_zeros_are_written_to_each_block_behind_it_once_and_flushed(self):
        for many, writes in ((0, 9), (3, 6), (9, 0)):
            disk = disk_with(plain_log((2, 0, 1), notes(many)), 10)
            disk.schedule_cut(writes + 1, [])
            open_log(disk)
            with self.assertRaises(PowerCut):
                disk.flush()

    def test_disks_without_a_log(self):
        empty = Disk(8)
        broken = disk_with([[255] * 32] * 8, 8)
        cleared = disk_with([ZEROS] + plain_log((2, 0, 1), notes(3)), 8)
        for disk in (empty, broken, cleared):
            self.check_not_kept(disk)

    def check_not_kept(self, disk):
        """There is no log, and nothing is changed by asking."""
        disk.write(7, [9] * 32)
        before = image_of(disk)
        with self.assertRaises(NotKept):
            open_log(disk)
        self.assertEqual((image_of(disk), disk.pending_count(), disk.cut_count()), (before, 1, 0))

    def test_the_first_record_is_broken(self):
        for place in range(32):
            block = plain_blocks(0, "hands 2 0 1")[0]
            block[place] ^= 128
            self.check_not_kept(disk_with([block] + plain_log((2, 0, 1), notes(3))[1:], 8))

    def test_texts_of_the_first_record_that_are_none(self):
        for text in (
            "hands 1 0 1", "hands 5 0 1", "hands 2 2 1", "hands 2 3 1", "hands 2 0 5", "hands 3 0 10", "hands 02 0 1",
            "hands 2 00 1", "hands 2 0 01", "hands 2 0", "hands 2 0 1 1", "hands 2 0 1 ", " hands 2 0 1", "hands  2 0 1",
            "hands 2  0 1", "Hands 2 0 1", "hand 2 0 1", "hands2 0 1", "hands 2 -1 1", "hands +2 0 1", "hands 2 0 +1",
            "hands 2 0 -0", "hands 2 0 x", "hands two 0 1", "hands", "2 0 1", "0 0 1 0 0 note", "hands 2:0:1",
            "hands 2 0 1 hands 2 0 1 hands",
        ):
            with self.subTest(text=text):
                self.check_not_kept(disk_with(plain_blocks(0, text), 8))

    def test_the_first_record_has_another_number(self):
        for number in (1, 256, 65535):
            self.check_not_kept(disk_with(plain_blocks(number, "hands 2 0 1"), 8))

    def test_the_first_record_in_pieces_that_are_not_full(self):
        first = [82, 0, 2, 0, 0, 6, *b"hands ", *[0] * 19, 82]
        second = [82, 1, 2, 0, 0, 5, *b"2 0 1", *[0] * 20, 82]
        self.check_not_kept(disk_with([first, second], 8))


class Broken(LogCase):
    """Logs in which something is wrong behind some deeds: these are there, and zeros from there on."""

    head = (2, 0, 1)

    def check_rest(self, rest, many, size=60):
        """Behind so many of some deeds there are these blocks, that are no record; no zeros follow them."""
        deeds = some_deeds()[:many]
        good = plain_log(self.head, deeds)
        blocks = good + rest
        disk = disk_with(blocks + [[255] * 32] * (size - len(blocks)), size)
        self.check_opened(disk, self.head, deeds)

    def blocks_of(self, at):
        return plain_blocks(at + 1, plain_form(some_deeds()[at]))

    def test_one_record_is_missing(self):
        deeds = some_deeds()
        for at in range(len(deeds)):
            rest = [block for other in range(at + 1, len(deeds)) for block in self.blocks_of(other)]
            self.check_rest(rest, at)
            self.check_rest([ZEROS] * len(self.blocks_of(at)) + rest, at)

    def test_two_records_are_exchanged(self):
        for at in range(len(some_deeds()) - 1):
            self.check_rest(self.blocks_of(at + 1) + self.blocks_of(at), at)

    def test_one_record_is_there_twice(self):
        for at in range(1, len(some_deeds())):
            self.check_rest(self.blocks_of(at - 1), at)

    def test_one_record_is_shortened(self):
        for at in range(len(some_deeds())):
            blocks = self.blocks_of(at)
            following = self.blocks_of(at + 1) if at + 1 < len(some_deeds()) else []
            for gone in range(len(blocks)):
                self.check_rest(blocks[:gone] + blocks[gone + 1:] + following, at)

    def test_pieces_of_one_record_are_exchanged(self):
        at = 2
        blocks = self.blocks_of(at)
        self.assertGreater(len(blocks), 1)
        self.check_rest([blocks[1], blocks[0], *blocks[2:]], at)
        self.check_rest([blocks[0], blocks[0], *blocks[2:]], at)
        self.check_rest([blocks[0], ZEROS, *blocks[2:]], at)

    def test_a_record_of_another_number(self):
        for at in range(len(some_deeds())):
            form = plain_form(some_deeds()[at])
            for number in (0, at, at + 2, at + 257, 65535):
                self.check_rest(plain_blocks(number, form), at)

    def test_pieces_of_another_number(self):
        at = 2
        for place in range(len(self.blocks_of(at))):
            blocks = self.blocks_of(at)
            blocks[place][4] += 1
            self.check_rest(blocks, at)
            blocks = self.blocks_of(at)
            blocks[place][3] += 1
            self.check_rest(blocks, at)

    def test_another_count_of_pieces(self):
        for at in range(len(some_deeds())):
            for change in (-1, 1, 9, 100):
                blocks = [block[:2] + [block[2] + change] + block[3:] for block in self.blocks_of(at)]
                self.check_rest(blocks, at)
            changed = self.blocks_of(at)
            changed[-1][2] += 1
            self.check_rest(changed, at)

    def test_another_index(self):
        for at in range(len(some_deeds())):
            changed = self.blocks_of(at)
            changed[-1][1] += 1
            self.check_rest(changed, at)

    def test_a_piece_ahead_of_the_last_one_that_is_not_full(self):
        form = '0 0 1 0 0 put none "abcdefgh"'
        for first in (1, 10, 23):
            pieces = [form[:first], form[first:]]
            blocks = [plain_blocks(1, piece)[0] for piece in pieces if len(piece) <= 24]
            if len(blocks) == 2:
                blocks[0][1:3], blocks[1][1:3] = [0, 2], [1, 2]
                self.check_rest(blocks, 0)

    def test_more_pieces_than_a_record_has(self):
        text = '0 0 1 0 0 put none "a"'
        blocks = plain_blocks(1, text.ljust(24 * 11))
        self.assertEqual(len(blocks), 11)
        self.check_rest(blocks, 0)

    def test_a_record_that_the_disk_ends_in(self):
        deeds = some_deeds()
        for at in range(len(deeds)):
            blocks = self.blocks_of(at)
            ahead = plain_log(self.head, deeds[:at])
            for many in range(1, len(blocks)):
                size = len(ahead) + many
                if size >= 8:
                    self.check_rest(blocks[:many], at, size)

    def test_a_byte_is_changed(self):
        source = random.Random(9)
        for at in range(len(some_deeds())):
            for place in range(32):
                blocks = self.blocks_of(at)
                block = source.choice(blocks)
                # A byte of the text may make another deed that fits; so it becomes one that no text has.
                block[place] = 255
                self.check_rest(blocks, at)

    def test_texts_that_are_no_deeds(self):
        for text in (
            "x", "note", "0 0 1 0 0", "0 0 1 0 0 none", "0 0 1 0 0 note ", "0  0 1 0 0 note", "00 0 1 0 0 note",
            "0 0 01 0 0 note", "0 0 1 0 0 0 note", "0 0 1 0 note", "2 0 1 0 0 note", '0 0 1 0 0 put none ""',
            '0 0 1 0 0 put none "abcdefghi"', '0 0 1 0 0 put "a"', "0 0 10000 0 0 note", "hands 2 0 1", " ",
            "0 0 1 0 0 leave leave", "-0 0 1 0 0 note",
        ):
            self.check_rest(plain_blocks(1, text), 0)

    def test_deeds_that_do_not_fit(self):
        # Hand 0 wrote abcdefgh, hand 1 knows that and did a put and a cut.
        before = some_deeds()[:3]
        sign = (0, 0, 0)
        for deed in (
            # The number is not the count of its hand's deeds.
            (0, 0, 4, (0, 2), NOTE), (0, 2, 4, (2, 2), NOTE), (1, 3, 4, (1, 3), NOTE), (1, 1, 4, (1, 1), NOTE),
            # Seen has another number for its hand.
            (0, 1, 4, (0, 2), NOTE), (0, 1, 1, (0, 0), NOTE), (1, 2, 3, (1, 1), NOTE), (0, 1, 4, (2, 2), NOTE),
            # Seen is not included.
            (0, 1, 4, (1, 3), NOTE), (1, 2, 4, (2, 2), NOTE), (0, 1, 4, (1, 9999), NOTE),
            # Seen does not include all that its deeds have seen.
            (1, 2, 4, (0, 2), NOTE), (1, 2, 2, (0, 2), NOTE),
            # The clock is another one.
            (0, 1, 3, (1, 2), NOTE), (0, 1, 5, (1, 2), NOTE), (0, 1, 0, (1, 2), NOTE), (0, 1, 4, (1, 0), NOTE),
            (0, 1, 1, (1, 0), NOTE),
            # It is not allowed.
            (0, 1, 4, (1, 2), ("put", (0, 0, 8), "x")), (0, 1, 4, (1, 2), ("cut", ((1, 1, 0),))),
            (0, 1, 2, (1, 0), ("put", (1, 0, 0), "x")), (0, 1, 4, (1, 2), ("mark", (0, 0, 5), (0, 0, 4), "b")),
            (0, 1, 4, (1, 2), ("toggle", 1)), (0, 1, 4, (1, 2), ("toggle", 7)), (1, 2, 4, (1, 2), ("toggle", 0)),
        ):
            self.assertFalse(plain_fits(2, 1, tuple(before), deed))
            with self.subTest(deed=deed):
                self.check_rest(plain_blocks(4, plain_form(deed)), 3)
        for deed in (
            (0, 1, 4, (1, 2), NOTE), (0, 1, 2, (1, 0), NOTE), (1, 2, 4, (1, 2), ("toggle", 1)),
            (0, 1, 4, (1, 2), ("put", sign, "x")), (0, 1, 3, (1, 1), ("cut", (sign,))),
        ):
            self.assertTrue(plain_fits(2, 1, tuple(before), deed))
            self.check_opened(disk_with(plain_log(self.head, [*before, deed]), 30), self.head, [*before, deed])

    def test_deeds_of_hands_that_have_left_and_of_dead_signs(self):
        made = Text(2, 0)
        put = made.do(0, ("put", None, "abc"))
        made.do(0, ("cut", (sign_of(put, 1),)))
        made.do(0, ("leave",))
        head, deeds = (2, 1, 0), list(made.histories[0])
        for deed in (
            (0, 3, 4, (3, 0), NOTE), (1, 0, 4, (3, 0), ("put", (0, 0, 1), "x")), (1, 0, 4, (3, 0), ("cut", ((0, 0, 1),))),
        ):
            blocks = plain_log(head, [*deeds, deed])
            self.check_opened(disk_with(blocks, 20), head, deeds)
        fine = (1, 0, 2, (1, 0), ("put", (0, 0, 1), "x"))
        self.check_opened(disk_with(plain_log(head, [*deeds, fine]), 20), head, [*deeds, fine])

    def test_a_deed_behind_one_that_does_not_fit_is_lost_too(self):
        deeds = notes(4)
        blocks = plain_log(self.head, deeds)
        blocks[2] = plain_blocks(2, "0 1 7 1 0 note")[0]
        self.check_opened(disk_with(blocks, 9), self.head, deeds[:1])

    def test_drawn_deeds_that_fit_or_do_not(self):
        source = random.Random(4)
        fits = {True: 0, False: 0}
        for made in random_texts(15, 30):
            made.hear_all()
            history = other_order(source, made.histories[0])
            for _ in range(20):
                deed = self.changed(source, made.hands, source.choice(history))
                many = source.randint(0, len(history) - 1)
                head = (made.hands, 0, made.bound)
                good = plain_fits(made.hands, made.bound, history[:many], deed)
                fits[good] += 1
                disk = disk_with(plain_log(head, [*history[:many], deed]), 200)
                self.check_opened(disk, head, [*history[:many], deed] if good else history[:many])
        self.assertGreater(min(fits.values()), 10)

    def changed(self, source, hands, deed):
        """The deed, or one with another number, clock or seen."""
        hand, number, clock, seen, act = deed
        word = source.choice(("same", "number", "clock", "seen", "both"))
        if word == "number":
            number += 1
        if word == "clock":
            clock = max(0, clock + source.choice((-1, 1)))
        if word in ("seen", "both"):
            at = source.randrange(hands)
            seen = seen[:at] + (max(0, seen[at] + source.choice((-1, 1))),) + seen[at + 1:]
        if word == "both":
            number = seen[hand]
        return (hand, number, clock, seen, act)


class Logs(LogCase):
    def test_append_tells_how_many_deeds_there_are_then(self):
        log = open_log(formatted(40))
        deeds = some_deeds()
        for at, deed in enumerate(deeds):
            self.assertEqual(log.append(deed), at + 1)
            self.assertEqual(log.deeds(), deeds[:at + 1])

    def test_append_writes_the_next_blocks_and_does_not_flush(self):
        disk = formatted(40)
        log, deeds = open_log(disk), some_deeds()
        for at in range(len(deeds)):
            before = disk.pending_count()
            log.append(deeds[at])
            self.assertEqual(disk.pending_count(), before + plain_need(deeds[at]))
            self.assertEqual(image_of(disk), padded(plain_log((2, 0, 1), deeds[:at + 1]), 40))
        self.assertIsNone(log.sync())
        self.check_flushed(disk, padded(plain_log((2, 0, 1), deeds), 40))

    def test_head_and_deeds(self):
        for head in ((2, 0, 1), (2, 1, 4), (4, 3, 0)):
            log = open_log(formatted(8, head))
            self.assertEqual((log.head(), log.deeds()), (head, []))
            self.assertIsInstance(log.head(), tuple)

    def test_lists_are_new(self):
        disk, log = log_with(20, notes(3))
        for found in (log.deeds(), open_log(disk).deeds()):
            found.append("changed by the caller")
            found[0] = None
        self.assertEqual(log.deeds(), notes(3))
        log = open_log(disk)
        log.deeds().clear()
        self.assertEqual(log.append(notes(4)[3]), 4)

    def test_opened_anew_with_all_that_was_appended(self):
        for made in random_texts(10, 40):
            head = (made.hands, 0, made.bound)
            disk, log = log_with(400, made.histories[0], head)
            self.assertEqual(log.deeds(), list(made.histories[0]))
            self.check_opened(disk, head, made.histories[0])

    def test_free_blocks(self):
        deeds = some_deeds()
        disk = formatted(40)
        log, left = open_log(disk), 39
        self.assertEqual(log.free_blocks(), 39)
        for deed in deeds:
            log.append(deed)
            left -= plain_need(deed)
            self.assertEqual(log.free_blocks(), left)
            self.assertEqual(open_log(disk).free_blocks(), left)
        self.assertEqual(open_log(formatted(8)).free_blocks(), 7)

    def test_full_at_the_last_block_exactly(self):
        for size in (8, 9, 10):
            disk = formatted(size)
            log, deeds = open_log(disk), notes(size)
            for at in range(size - 1):
                self.assertEqual(log.append(deeds[at]), at + 1)
            self.assertEqual(log.free_blocks(), 0)
            self.check_full(disk, log, deeds[size - 1])
            self.check_opened(disk, (2, 0, 1), deeds[:size - 1])

    def check_full(self, disk, log, deed):
        before = (image_of(disk), disk.pending_count(), log.deeds(), log.free_blocks())
        with self.assertRaises(LogFull):
            log.append(deed)
        self.assertEqual((image_of(disk), disk.pending_count(), log.deeds(), log.free_blocks()), before)

    def test_full_for_a_deed_of_several_blocks(self):
        made = Text(2)
        deeds = [made.do(0, NOTE) for _ in range(5)]
        long = made.do(0, ("put", None, "abcdefgh"))
        short = (0, 5, 6, (5, 0), NOTE)
        self.assertEqual((plain_need(long), plain_need(short)), (2, 1))
        for many in (4, 5):
            disk = formatted(8)
            log = open_log(disk)
            for deed in deeds:
                log.append(deed)
            if many == 4:
                self.assertEqual(log.append(long), 6)
                self.assertEqual(log.free_blocks(), 0)
                self.check_opened(disk, (2, 0, 1), [*deeds, long])
        disk = formatted(8)
        log = open_log(disk)
        for deed in deeds:
            log.append(deed)
        log.append(short)
        self.assertEqual(log.free_blocks(), 1)
        later = (0, 6, 7, (6, 0), ("put", None, "abcdefgh"))
        self.check_full(disk, log, later)
        self.assertEqual(log.append((0, 6, 7, (6, 0), NOTE)), 7)
        self.check_opened(disk, (2, 0, 1), [*deeds, short, (0, 6, 7, (6, 0), NOTE)])

    def test_room(self):
        deeds = some_deeds()
        needed = [plain_need(deed) for deed in deeds]
        self.assertGreater(max(needed), 1)
        for size in range(8, 1 + sum(needed) + 3):
            log = open_log(formatted(size))
            for many in range(len(deeds) + 1):
                fine = sum(needed[:many]) <= size - 1
                self.assertIs(log.room(deeds[:many]), fine)
                self.assertIs(log.room(tuple(deeds[:many])), fine)
        log = open_log(formatted(8))
        for deed in notes(7):
            self.assertIs(log.room([deed]), True)
            log.append(deed)
        self.assertIs(log.room([]), True)
        self.assertIs(log.room([notes(8)[7]]), False)

    def test_room_changes_nothing(self):
        disk = formatted(8)
        log, passed = open_log(disk), notes(9)
        before = image_of(disk)
        log.room(passed)
        self.assertEqual((image_of(disk), log.deeds(), passed), (before, [], notes(9)))

    def test_sync_flushes(self):
        disk = formatted(8)
        log = open_log(disk)
        log.sync()
        log.append(notes(1)[0])
        disk.write(7, [5] * 32)
        log.sync()
        self.assertEqual(disk.pending_count(), 0)
        disk.schedule_cut(1, [])
        log.sync()
        with self.assertRaises(PowerCut):
            log.sync()


class Closed(LogCase):
    def check_closed(self, disk, log, deeds):
        """Nothing is appended or flushed any more; what the log had it still tells."""
        for _ in range(2):
            before = (image_of(disk), disk.pending_count(), disk.cut_count())
            for call in (lambda: log.append(notes(9)[8]), log.sync):
                with self.assertRaises(NotOpen):
                    call()
            self.assertEqual((image_of(disk), disk.pending_count(), disk.cut_count()), before)
            self.assertEqual((log.head(), log.deeds()), ((2, 0, 1), deeds))
            disk.write(disk.size() - 1, [0] * 32)

    def test_by_cut_power(self):
        disk, log = log_with(20, notes(3))
        disk.cut_power([])
        self.check_closed(disk, log, notes(3))

    def test_by_cut_power_of_nothing_that_waits_or_of_all(self):
        for torn in ([], [0], [32] * 5):
            disk, log = log_with(20, notes(2))
            log.append(notes(3)[2])
            disk.cut_power(torn)
            self.check_closed(disk, log, notes(3))

    def test_by_a_schedule_within_append(self):
        deeds = some_deeds()
        for at in range(plain_need(deeds[2])):
            disk, log = log_with(30, deeds[:2])
            disk.schedule_cut(at, [32] * 3)
            with self.assertRaises(PowerCut):
                log.append(deeds[2])
            self.check_closed(disk, log, deeds[:2])
            self.assertEqual(open_log(disk).deeds(), deeds[:2])

    def test_by_a_schedule_within_sync(self):
        disk, log = log_with(20, notes(3))
        log.append(notes(4)[3])
        disk.schedule_cut(0, [])
        with self.assertRaises(PowerCut):
            log.sync()
        self.check_closed(disk, log, notes(4))

    def test_by_a_schedule_within_open_log(self):
        for at in range(5):
            disk, log = log_with(8, notes(3))
            disk.schedule_cut(at, [])
            with self.assertRaises(PowerCut):
                open_log(disk)
            self.check_closed(disk, log, notes(3))

    def test_not_open_is_told_ahead_of_full(self):
        disk, log = log_with(8, notes(7))
        disk.cut_power([])
        with self.assertRaises(NotOpen):
            log.append(notes(8)[7])

    def test_room_does_not_ask_whether_it_is_open(self):
        disk, log = log_with(8, notes(3))
        disk.cut_power([])
        self.assertIs(log.room([]), True)
        self.assertIs(log.room(notes(1)), True)

    def test_a_log_that_was_opened_after_the_cut_is_open(self):
        disk, log = log_with(20, notes(3))
        disk.cut_power([])
        newer = open_log(disk)
        self.assertEqual(newer.append(notes(4)[3]), 4)
        newer.sync()
        self.check_closed(disk, log, notes(3))
        disk.cut_power([])
        with self.assertRaises(NotOpen):
            newer.sync()

    def test_a_cut_ahead_of_the_opening_does_not_matter(self):
        disk = formatted(8)
        disk.cut_power([])
        disk.cut_power([])
        log = open_log(disk)
        self.assertEqual(log.append(notes(1)[0]), 1)
        log.sync()
        self.check_opened(disk, (2, 0, 1), notes(1))


if __name__ == "__main__":
    unittest.main()
