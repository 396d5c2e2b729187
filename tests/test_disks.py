"""textatrest.disks: blocks, flushes and cuts of the power (points 25 and 26 of the document)."""

import random
import unittest

from textatrest import disks
from textatrest.disks import BLOCK, BLOCKS_MOST, Disk
from textatrest.errors import OutOfRange, PowerCut

ZEROS = [0] * 32


def block_of(first):
    """A block with 32 different numbers, the first one from 1 to 200."""
    return [first + at for at in range(32)]


def contents(disk):
    return [disk.read(at) for at in range(disk.size())]


def state_of(disk):
    return (contents(disk), disk.pending_count(), disk.cut_count())


def torn_to(new, old, stays):
    return new[:stays] + old[stays:]


class DiskCase(unittest.TestCase):
    def check_refused(self, disk, name, method, *arguments):
        before = state_of(disk)
        with self.subTest(method=method, arguments=arguments):
            with self.assertRaises(OutOfRange) as told:
                getattr(disk, method)(*arguments)
            self.assertEqual(told.exception.name, name)
            self.assertEqual(state_of(disk), before)

    def check_cut(self, disk, method, *arguments):
        """The call raises PowerCut, and cuts the power once."""
        before = disk.cut_count()
        with self.assertRaises(PowerCut) as told:
            getattr(disk, method)(*arguments)
        self.assertIs(type(told.exception), PowerCut)
        self.assertEqual((disk.cut_count(), disk.pending_count()), (before + 1, 0))


class Blocks(DiskCase):
    def test_constants(self):
        self.assertEqual((BLOCK, BLOCKS_MOST), (32, 400))
        self.assertEqual((disks.BLOCK, disks.BLOCKS_MOST), (32, 400))

    def test_new_disks(self):
        for blocks in (8, 9, 100, 399, 400):
            disk = Disk(blocks)
            self.assertEqual(disk.size(), blocks)
            self.assertEqual(contents(disk), [ZEROS] * blocks)
            self.assertEqual((disk.pending_count(), disk.cut_count()), (0, 0))
        self.assertEqual(Disk(blocks=10).size(), 10)

    def test_numbers_of_blocks_that_there_are_not(self):
        for blocks in (-1, 0, 1, 7, 401, 1000):
            with self.assertRaises(OutOfRange) as told:
                Disk(blocks)
            self.assertEqual(told.exception.name, "blocks")

    def test_each_block_ahead_of_and_behind_a_flush(self):
        disk = Disk(12)
        for at in range(12):
            self.assertIsNone(disk.write(at, block_of(at + 1)))
            self.assertEqual(disk.pending_count(), at + 1)
            self.assertEqual(contents(disk), [block_of(k + 1) for k in range(at + 1)] + [ZEROS] * (11 - at))
        self.assertIsNone(disk.flush())
        self.assertEqual(disk.pending_count(), 0)
        self.assertEqual(contents(disk), [block_of(at + 1) for at in range(12)])
        disk.cut_power([])
        self.assertEqual(contents(disk), [block_of(at + 1) for at in range(12)])

    def test_a_write_waits_until_the_flush(self):
        disk = Disk(8)
        disk.write(3, block_of(1))
        disk.cut_power([])
        self.assertEqual(contents(disk), [ZEROS] * 8)
        disk.write(3, block_of(1))
        disk.flush()
        disk.cut_power([])
        self.assertEqual(disk.read(3), block_of(1))

    def test_flushes_without_writes(self):
        disk = Disk(8)
        disk.flush()
        disk.write(0, block_of(9))
        disk.flush()
        disk.flush()
        self.assertEqual(state_of(disk), ([block_of(9)] + [ZEROS] * 7, 0, 0))

    def test_writes_to_one_block_twice(self):
        disk = Disk(8)
        disk.write(5, block_of(1))
        disk.write(5, block_of(50))
        self.assertEqual((disk.read(5), disk.pending_count()), (block_of(50), 2))
        disk.flush()
        self.assertEqual((disk.read(5), disk.pending_count()), (block_of(50), 0))
        disk.write(5, block_of(7))
        disk.write(5, ZEROS)
        self.assertEqual(disk.read(5), ZEROS)
        disk.flush()
        self.assertEqual(disk.read(5), ZEROS)

    def test_the_least_and_the_greatest_bytes(self):
        disk = Disk(8)
        for block in ([0] * 32, [255] * 32, [0, 255] * 16):
            disk.write(7, block)
            self.assertEqual(disk.read(7), block)

    def test_a_block_that_was_passed_is_changed_later(self):
        disk = Disk(8)
        passed = block_of(1)
        disk.write(0, passed)
        self.assertEqual(passed, block_of(1))
        passed[0] = 99
        passed.append(4)
        self.assertEqual(disk.read(0), block_of(1))
        disk.flush()
        passed[1] = 98
        self.assertEqual(disk.read(0), block_of(1))

    def test_a_block_that_was_returned_is_changed_later(self):
        disk = Disk(8)
        disk.write(0, block_of(1))
        for _ in range(2):
            found = disk.read(0)
            self.assertIsInstance(found, list)
            found[0] = 99
            found.append(4)
            self.assertEqual(disk.read(0), block_of(1))
            empty = disk.read(1)
            empty[0] = 99
            self.assertEqual(contents(disk)[1:], [ZEROS] * 7)
            disk.flush()

    def test_blocks_are_apart_and_disks_are_apart(self):
        one, other = Disk(8), Disk(8)
        one.write(0, block_of(1))
        one.flush()
        self.assertEqual(contents(one)[1:], [ZEROS] * 7)
        self.assertEqual(state_of(other), ([ZEROS] * 8, 0, 0))


class Refused(DiskCase):
    def test_at_of_reads(self):
        for blocks in (8, 400):
            disk = Disk(blocks)
            disk.write(blocks - 1, block_of(1))
            for at in (-1, -blocks, blocks, blocks + 1):
                self.check_refused(disk, "at", "read", at)

    def test_at_of_writes(self):
        for blocks in (8, 400):
            disk = Disk(blocks)
            for at in (-1, -blocks, blocks, blocks + 1):
                for block in (block_of(1), [], [0] * 31, [0] * 33, [256] * 32, [-1] * 32):
                    self.check_refused(disk, "at", "write", at, block)

    def test_block(self):
        disk = Disk(8)
        disk.write(1, block_of(1))
        for at in (0, 1, 7):
            for block in ([], [0], [0] * 31, [0] * 33, [0] * 64):
                self.check_refused(disk, "block", "write", at, block)
            for place in (0, 1, 30, 31):
                for byte in (-1, 256, -255, 1000):
                    block = block_of(1)
                    block[place] = byte
                    self.check_refused(disk, "block", "write", at, block)

    def test_torn(self):
        disk = Disk(8)
        disk.write(1, block_of(1))
        for torn in ([-1], [33], [0, 32, 33], [5, -1], [0, 0, 0, 0, -1], [1000]):
            self.check_refused(disk, "torn", "cut_power", torn)
        disk.flush()
        self.assertEqual(disk.read(1), block_of(1))


class Cuts(DiskCase):
    def cut_disk(self, torn):
        """Blocks 0 to 3 were flushed; then writes of the blocks 2, 0 and 3 wait, and the power is cut."""
        disk = Disk(8)
        for at in range(4):
            disk.write(at, block_of(at + 1))
        disk.flush()
        for at in (2, 0, 3):
            disk.write(at, block_of(at + 100))
        given = list(torn)
        self.assertIsNone(disk.cut_power(torn))
        self.assertEqual(torn, given)
        self.assertEqual((disk.pending_count(), disk.cut_count()), (0, 1))
        self.assertEqual(contents(disk)[4:], [ZEROS] * 4)
        return contents(disk)[:4]

    def test_each_write_stores_its_first_bytes(self):
        for torn in (
            [], [0], [32], [1], [31], [0, 32], [32, 0], [5, 6], [32, 32, 32], [0, 0, 0], [1, 2, 3], [31, 0, 1],
            [3, 2, 1, 9, 9], [0, 0, 0, 32], [32, 32, 32, 32, 0],
        ):
            stays = (torn + [0, 0, 0])[:3]
            expected = [block_of(at + 1) for at in range(4)]
            for at, many in zip((2, 0, 3), stays):
                expected[at] = torn_to(block_of(at + 100), expected[at], many)
            self.assertEqual(self.cut_disk(torn), expected)

    def test_every_number_of_bytes(self):
        for stays in range(33):
            disk = Disk(8)
            disk.write(0, block_of(1))
            disk.flush()
            disk.write(0, block_of(100))
            disk.write(1, block_of(50))
            disk.cut_power([stays, stays])
            self.assertEqual(disk.read(0), torn_to(block_of(100), block_of(1), stays))
            self.assertEqual(disk.read(1), torn_to(block_of(50), ZEROS, stays))

    def test_two_waiting_writes_of_one_block(self):
        for first in (0, 3, 20, 32):
            for second in (0, 3, 20, 32):
                disk = Disk(8)
                disk.write(6, block_of(1))
                disk.flush()
                disk.write(6, block_of(60))
                disk.write(6, block_of(120))
                disk.cut_power([first, second])
                once = torn_to(block_of(60), block_of(1), first)
                self.assertEqual(disk.read(6), torn_to(block_of(120), once, second))

    def test_a_cut_without_writes(self):
        disk = Disk(8)
        for many in range(1, 4):
            disk.cut_power([32] * many)
            self.assertEqual(state_of(disk), ([ZEROS] * 8, 0, many))

    def test_a_tuple_of_bytes(self):
        disk = Disk(8)
        disk.write(0, block_of(1))
        disk.cut_power((4,))
        self.assertEqual(disk.read(0), torn_to(block_of(1), ZEROS, 4))

    def test_what_is_torn_is_there_for_good_and_no_write_waits(self):
        disk = Disk(8)
        disk.write(0, block_of(1))
        disk.cut_power([4])
        disk.flush()
        self.assertEqual(disk.read(0), torn_to(block_of(1), ZEROS, 4))
        disk.cut_power([32])
        self.assertEqual(disk.read(0), torn_to(block_of(1), ZEROS, 4))
        disk.write(0, block_of(9))
        disk.flush()
        self.assertEqual(disk.read(0), block_of(9))

    def test_drawn_courses(self):
        source = random.Random(11)
        for _ in range(40):
            disk, stored, waits = Disk(8), [ZEROS] * 8, []
            for _ in range(60):
                word = source.choice(("write", "write", "write", "flush", "cut"))
                if word == "write":
                    at, block = source.randrange(8), [source.randrange(256) for _ in range(32)]
                    disk.write(at, block)
                    waits.append((at, block))
                    continue
                torn = [source.randint(0, 32) for _ in range(source.randint(0, len(waits) + 2))]
                if word == "flush":
                    disk.flush()
                    torn = [32] * len(waits)
                else:
                    disk.cut_power(torn)
                for (at, block), many in zip(waits, torn):
                    stored[at] = torn_to(block, stored[at], many)
                waits = []
                self.assertEqual((contents(disk), disk.pending_count()), (stored, 0))


class Schedules(DiskCase):
    def test_each_number_of_writes_and_flushes(self):
        for many in range(7):
            disk = Disk(8)
            disk.write(0, block_of(1))
            self.assertIsNone(disk.schedule_cut(many, [3, 4, 5]))
            self.assertEqual((disk.pending_count(), disk.cut_count()), (1, 0))
            for at in range(many):
                disk.write(at + 1, block_of(at + 10))
                self.assertEqual((disk.pending_count(), disk.cut_count()), (at + 2, 0))
            self.check_cut(disk, "write", 7, block_of(70))
            rows = [block_of(1)] + [block_of(at + 10) for at in range(many)]
            expected = [torn_to(row, ZEROS, stays) for row, stays in zip(rows, [3, 4, 5, 0, 0, 0, 0])]
            self.assertEqual(contents(disk), expected + [ZEROS] * (8 - len(expected)))

    def test_flushes_count_too(self):
        for many in range(1, 5):
            disk = Disk(8)
            disk.schedule_cut(many, [])
            for at in range(many):
                if at % 2 == 0:
                    disk.flush()
                else:
                    disk.write(at, block_of(at))
            self.check_cut(disk, "flush")

    def test_the_write_that_is_cut_does_nothing_itself(self):
        disk = Disk(8)
        disk.write(0, block_of(1))
        disk.schedule_cut(0, [32, 32])
        self.check_cut(disk, "write", 1, block_of(50))
        self.assertEqual(contents(disk), [block_of(1)] + [ZEROS] * 7)
        disk.flush()
        self.assertEqual(contents(disk), [block_of(1)] + [ZEROS] * 7)

    def test_the_flush_that_is_cut_does_nothing_itself(self):
        disk = Disk(8)
        disk.write(0, block_of(1))
        disk.write(1, block_of(50))
        disk.schedule_cut(0, [7])
        self.check_cut(disk, "flush")
        self.assertEqual(contents(disk), [torn_to(block_of(1), ZEROS, 7)] + [ZEROS] * 7)

    def test_reads_and_counts_do_not_count(self):
        disk = Disk(8)
        disk.schedule_cut(1, [])
        for _ in range(3):
            state_of(disk)
            disk.size()
        disk.write(0, block_of(1))
        state_of(disk)
        self.check_cut(disk, "flush")

    def test_scheduled_anew(self):
        disk = Disk(8)
        disk.schedule_cut(0, [1])
        disk.schedule_cut(2, [9])
        disk.write(0, block_of(1))
        disk.write(1, block_of(50))
        self.check_cut(disk, "flush")
        self.assertEqual(disk.read(0), torn_to(block_of(1), ZEROS, 9))
        disk.schedule_cut(100000, [1])
        disk.schedule_cut(0, [])
        self.check_cut(disk, "write", 0, block_of(1))

    def test_scheduled_anew_half_way(self):
        disk = Disk(8)
        disk.schedule_cut(2, [])
        disk.flush()
        disk.schedule_cut(2, [])
        disk.flush()
        disk.flush()
        self.check_cut(disk, "flush")

    def test_ended_by_a_cut(self):
        disk = Disk(8)
        disk.schedule_cut(1, [32])
        disk.cut_power([])
        for at in range(5):
            disk.write(at, block_of(1))
            disk.flush()
        self.assertEqual(disk.cut_count(), 1)

    def test_what_is_out_of_range_does_not_count(self):
        disk = Disk(8)
        disk.schedule_cut(1, [])
        for at, block in ((-1, ZEROS), (8, ZEROS), (0, []), (0, [256] * 32)):
            for _ in range(3):
                with self.assertRaises(OutOfRange):
                    disk.write(at, block)
        disk.write(0, block_of(1))
        # Its arguments are checked even if it is the write that would be cut.
        with self.assertRaises(OutOfRange):
            disk.write(8, ZEROS)
        with self.assertRaises(OutOfRange):
            disk.write(0, [0] * 31)
        self.assertEqual((disk.pending_count(), disk.cut_count()), (1, 0))
        self.check_cut(disk, "write", 0, block_of(1))

    def test_the_greatest_number(self):
        disk = Disk(8)
        disk.schedule_cut(100000, [])
        for _ in range(100000):
            disk.flush()
        self.check_cut(disk, "flush")

    def test_many_and_torn(self):
        disk = Disk(8)
        for many in (-1, -100000, 100001, 1000000):
            for torn in ([], [0, 32], [-1], [33]):
                self.check_refused(disk, "many", "schedule_cut", many, torn)
        for many in (0, 1, 100000):
            for torn in ([-1], [33], [0, 32, 33], [0, -1, 5]):
                self.check_refused(disk, "torn", "schedule_cut", many, torn)
        disk.write(0, block_of(1))
        disk.flush()
        self.assertEqual(disk.cut_count(), 0)

    def test_what_is_refused_leaves_the_schedule_as_it_was(self):
        disk = Disk(8)
        disk.schedule_cut(1, [6])
        self.check_refused(disk, "many", "schedule_cut", -1, [])
        self.check_refused(disk, "torn", "schedule_cut", 5, [33])
        self.check_refused(disk, "torn", "cut_power", [33])
        disk.write(0, block_of(1))
        self.check_cut(disk, "flush")
        self.assertEqual(disk.read(0), torn_to(block_of(1), ZEROS, 6))

    def test_a_list_that_was_passed_is_changed_later(self):
        disk = Disk(8)
        torn = [5]
        disk.schedule_cut(1, torn)
        self.assertEqual(torn, [5])
        torn[0] = 32
        torn.append(32)
        disk.write(0, block_of(1))
        self.check_cut(disk, "flush")
        self.assertEqual(disk.read(0), torn_to(block_of(1), ZEROS, 5))

    def test_after_the_cut_the_disk_works_on_without_a_schedule(self):
        disk = Disk(8)
        disk.schedule_cut(0, [])
        self.check_cut(disk, "write", 0, block_of(1))
        for at in range(8):
            disk.write(at, block_of(at + 1))
        disk.flush()
        disk.flush()
        self.assertEqual(state_of(disk), ([block_of(at + 1) for at in range(8)], 0, 1))
        disk.schedule_cut(0, [])
        self.check_cut(disk, "flush")
        self.assertEqual(disk.cut_count(), 2)


if __name__ == "__main__":
    unittest.main()
