"""textatrest.log: power cuts at every single write and flush (point 31 of the document)."""

import unittest

from making import Text, sign_of
from storing import TORN, ZEROS, disk_with, image_of, padded, plain_log, plain_need
from textatrest.disks import Disk
from textatrest.errors import NotKept, PowerCut
from textatrest.log import format_disk, open_log

HEAD = (2, 0, 4)
SIZE = 20
# What is done with a log: so many deeds are appended, then it is synced.
STEPS = (1, 2, 0, 1, 2)


def deeds_of_a_text():
    """Six deeds that need one, two and three blocks."""
    made = Text(2, 4)
    put = made.do(0, ("put", None, "abcdefgh"))
    made.do(0, ("note",))
    made.do(0, ("cut", tuple([sign_of(put, index) for index in range(8)])))
    made.do(0, ("put", sign_of(put, 3), "x"))
    made.do(0, ("toggle", 0))
    made.do(0, ("mark", sign_of(put, 0), sign_of(put, 7), "abcd"))
    return list(made.histories[0])


class Course:
    """A log that is opened, appended to and synced, until the power is cut."""

    def __init__(self, disk):
        self.disk = disk
        self.appended = 0
        self.flushed = 0
        self.was_cut = False

    def run(self):
        try:
            self.work()
        except PowerCut:
            self.was_cut = True

    def work(self):
        log, deeds = open_log(self.disk), deeds_of_a_text()
        self.appended = self.flushed = len(log.deeds())
        for many in STEPS:
            for deed in deeds[self.appended:self.appended + many]:
                log.append(deed)
                self.appended += 1
            log.sync()
            self.flushed = self.appended


class CutCase(unittest.TestCase):
    def opened(self, disk, torn, cuts):
        """The log, when its opening was cut itself behind each of these numbers of writes and flushes."""
        for at in cuts:
            disk.schedule_cut(at, torn)
            with self.assertRaises(PowerCut):
                open_log(disk)
        return open_log(disk)

    def check_beginning(self, disk, least, most, torn=(), cuts=()):
        """The log has a beginning of the deeds, at least and at most so many of them, for good; how many."""
        log = self.opened(disk, list(torn), cuts)
        found = log.deeds()
        self.assertEqual(log.head(), HEAD)
        self.assertEqual(found, deeds_of_a_text()[:len(found)])
        self.assertTrue(least <= len(found) <= most)
        self.assertEqual(image_of(disk), padded(plain_log(HEAD, found), disk.size()))
        disk.cut_power([])
        self.assertEqual(open_log(disk).deeds(), found)
        return len(found)


class Appends(CutCase):
    def formatted(self):
        return disk_with(plain_log(HEAD, []), SIZE)

    def operations(self):
        """How many writes and flushes the course has, as the deeds and steps tell."""
        writes = sum([plain_need(deed) for deed in deeds_of_a_text()])
        return (SIZE - 1) + 1 + writes + len(STEPS)

    def test_the_course_has_the_writes_and_flushes_that_are_expected(self):
        at = 0
        while True:
            course = Course(self.formatted())
            course.disk.schedule_cut(at, [])
            course.run()
            if not course.was_cut:
                break
            at += 1
        self.assertEqual(at, self.operations())
        self.assertEqual((course.appended, course.flushed), (6, 6))

    def test_at_every_write_and_flush(self):
        found = {}
        for at in range(self.operations()):
            for torn in TORN:
                course = Course(self.formatted())
                course.disk.schedule_cut(at, torn)
                course.run()
                self.assertTrue(course.was_cut)
                # The deed whose writing was cut may be there with all its blocks or not at all.
                many = self.check_beginning(course.disk, course.flushed, course.appended + 1)
                found[many - course.flushed] = True
        self.assertEqual(sorted(found), [0, 1, 2])

    def test_by_cut_power_behind_every_append(self):
        for many in range(7):
            for torn in TORN:
                disk = self.formatted()
                log = open_log(disk)
                for deed in deeds_of_a_text()[:many]:
                    log.append(deed)
                disk.cut_power(torn)
                self.check_beginning(disk, 0, many)

    def test_what_is_there_for_each_torn_write(self):
        deeds = deeds_of_a_text()
        self.assertEqual([plain_need(deed) for deed in deeds[:3]], [2, 1, 3])
        for torn, many in (
            ([], 0), ([32], 0), ([32, 31], 0), ([31, 32, 32], 0), ([32, 32], 1), ([32, 32, 31], 1), ([0, 32, 32], 0),
            ([32, 32, 0, 32, 32, 32], 1), ([32, 32, 32], 2), ([32, 32, 32, 32, 32], 2), ([32] * 5 + [31], 2),
            ([32, 32, 32, 0, 32, 32], 2), ([32, 32, 32, 32, 1, 32], 2), ([32] * 6, 3), ([32] * 7, 3),
        ):
            disk = self.formatted()
            log = open_log(disk)
            for deed in deeds[:3]:
                log.append(deed)
            disk.cut_power(torn)
            with self.subTest(torn=torn):
                self.assertEqual(self.check_beginning(disk, many, many), many)

    def test_the_opening_is_cut_itself(self):
        for at in range(self.operations()):
            for torn in TORN:
                for cuts in ((0,), (3, 1), (2, 5, 0, 1)):
                    course = Course(self.formatted())
                    course.disk.schedule_cut(at, torn)
                    course.run()
                    self.check_beginning(course.disk, course.flushed, course.appended + 1, torn, cuts)

    def test_the_opening_is_cut_at_every_write_and_flush(self):
        # A record in the middle is torn, and records stand behind it.
        for torn in TORN:
            good = plain_log(HEAD, deeds_of_a_text())
            for broken in range(1, len(good)):
                blocks = good[:broken] + [good[broken][:9] + [0] * 23] + good[broken + 1:]
                expected = self.whole_deeds(broken)
                writes = SIZE - len(plain_log(HEAD, deeds_of_a_text()[:expected]))
                for at in range(writes + 1):
                    disk = disk_with(blocks, SIZE)
                    self.check_beginning(disk, expected, expected, torn, (at,))
                self.check_beginning(disk_with(blocks, SIZE), expected, expected, torn, (writes, 0, writes // 2, writes))

    def whole_deeds(self, blocks):
        """How many deeds have all their blocks among so many."""
        many = 0
        while len(plain_log(HEAD, deeds_of_a_text()[:many + 1])) <= blocks:
            many += 1
        return many

    def test_going_on_after_each_cut(self):
        for torn in TORN:
            for gap in range(SIZE, self.operations()):
                disk = self.formatted()
                flushed, cuts = 0, 0
                while True:
                    if cuts < 12:
                        disk.schedule_cut(gap, torn)
                    course = Course(disk)
                    course.run()
                    flushed = max(flushed, course.flushed)
                    if not course.was_cut:
                        break
                    cuts += 1
                    flushed = self.check_beginning(disk, flushed, max(flushed, course.appended + 1))
                self.assertEqual(course.appended, 6)
                # The schedule that was left over is put off.
                disk.schedule_cut(100000, [])
                self.check_beginning(disk, 6, 6)


class Formats(CutCase):
    def test_of_an_empty_disk(self):
        for at in range(SIZE + 1):
            for torn in TORN:
                disk = Disk(SIZE)
                disk.schedule_cut(at, torn)
                with self.assertRaises(PowerCut):
                    format_disk(disk, *HEAD)
                if at > 0 and torn[:1] == [32]:
                    self.check_beginning(disk, 0, 0)
                else:
                    with self.assertRaises(NotKept):
                        open_log(disk)
                format_disk(disk, *HEAD)
                self.check_beginning(disk, 0, 0)

    def test_of_a_disk_with_a_log_of_the_same_hand(self):
        found = {}
        for at in range(SIZE + 1):
            for torn in TORN:
                disk = disk_with(plain_log(HEAD, deeds_of_a_text()), SIZE)
                disk.schedule_cut(at, torn)
                with self.assertRaises(PowerCut):
                    format_disk(disk, *HEAD)
                found[self.check_beginning(disk, 0, 6)] = True
                format_disk(disk, *HEAD)
                self.check_beginning(disk, 0, 0)
        self.assertEqual(sorted(found)[0], 0)
        self.assertEqual(sorted(found)[-1], 6)

    def test_of_a_disk_with_a_broken_first_record(self):
        for at in range(SIZE + 1):
            for torn in TORN:
                disk = disk_with([ZEROS] + plain_log(HEAD, deeds_of_a_text())[1:], SIZE)
                disk.schedule_cut(at, torn)
                with self.assertRaises(PowerCut):
                    format_disk(disk, *HEAD)
                format_disk(disk, *HEAD)
                self.check_beginning(disk, 0, 0)


if __name__ == "__main__":
    unittest.main()
