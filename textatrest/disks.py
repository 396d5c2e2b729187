"""A disk whose power can be cut at any write."""

from textatrest.errors import OutOfRange, PowerCut

BLOCK = 32
BLOCKS_LEAST = 8
BLOCKS_MOST = 400
BYTE_MOST = 255
SCHEDULE_MOST = 100000


class Disk:
    """Blocks of bytes; what is written waits until a flush."""

    def __init__(self, blocks):
        if not BLOCKS_LEAST <= blocks <= BLOCKS_MOST:
            raise OutOfRange("blocks")
        self.stored = [(0,) * BLOCK] * blocks
        self.unflushed = []
        self.cuts = 0
        # How many writes and flushes are done before the power is cut; None without a schedule.
        self.until_cut = None
        self.torn_then = ()

    def size(self):
        """How many blocks there are."""
        return len(self.stored)

    def read(self, at):
        """The bytes that the waiting writes would leave in a block, as a new list."""
        self.check_at(at)
        found = self.stored[at]
        for place, block in self.unflushed:
            if place == at:
                found = block
        return list(found)

    def write(self, at, block):
        """Lets a block wait until the flush."""
        self.check_at(at)
        if not is_block(block):
            raise OutOfRange("block")
        self.count_down()
        self.unflushed.append((at, tuple(block)))

    def flush(self):
        """Performs all waiting writes in order."""
        self.count_down()
        self.store([BLOCK] * len(self.unflushed))

    def pending_count(self):
        """How many writes wait."""
        return len(self.unflushed)

    def cut_count(self):
        """How often the power was cut."""
        return self.cuts

    def cut_power(self, torn):
        """Cuts the power: waiting write number i stores only its first torn[i] bytes."""
        check_torn(torn)
        missing = len(self.unflushed) - len(torn)
        self.store(list(torn) + [0] * missing)
        self.cuts += 1
        self.until_cut = None

    def schedule_cut(self, many, torn):
        """Lets the power be cut by the write or flush that comes behind so many further ones."""
        if not 0 <= many <= SCHEDULE_MOST:
            raise OutOfRange("many")
        check_torn(torn)
        self.until_cut = many
        self.torn_then = tuple(torn)

    def check_at(self, at):
        """Raises an error if there is no such block."""
        if not 0 <= at < len(self.stored):
            raise OutOfRange("at")

    def count_down(self):
        """Counts a write or flush, or cuts the power ahead of it."""
        if self.until_cut == 0:
            self.cut_power(self.torn_then)
            raise PowerCut("the power was cut as scheduled")
        if self.until_cut is not None:
            self.until_cut -= 1

    def store(self, lengths):
        """Stores the first lengths[i] bytes of waiting write number i; then no write waits."""
        for (at, block), stays in zip(self.unflushed, lengths):
            self.stored[at] = block[:stays] + self.stored[at][stays:]
        self.unflushed = []


def is_block(block):
    """Whether it has as many numbers as a block, and all of them are bytes."""
    return len(block) == BLOCK and all([0 <= byte <= BYTE_MOST for byte in block])


def check_torn(torn):
    """Raises an error if a number of bytes is none that can be stored."""
    if not all([0 <= stays <= BLOCK for stays in torn]):
        raise OutOfRange("torn")
