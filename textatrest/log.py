"""The log of a hand: record 0 tells whose it is, and the others are its deeds, one after another."""

from textatrest.blocks import PIECES_MOST, decode_piece, encode_record, piece_count
from textatrest.disks import BLOCK
from textatrest.errors import LogFull, NotKept, NotOpen, OutOfRange
from textatrest.hands import check_head
from textatrest.histories import fits
from textatrest.records import read_deed, read_number, write_deed


def format_disk(disk, hands, number, bound):
    """Makes the disk hold the log of this hand, without deeds."""
    check_head(hands, number, bound)
    blocks = encode_record(0, head_text((hands, number, bound)))
    write_blocks(disk, 0, blocks)
    clear_from(disk, len(blocks))
    disk.flush()


def open_log(disk):
    """The log that the disk holds, as far as it can be read; the rest of the disk is cleared."""
    head = read_head(disk)
    if head is None:
        raise NotKept("the disk holds no log")
    deeds, used = read_deeds(disk, head)
    clear_from(disk, used)
    disk.flush()
    return Log(disk, head, deeds, used)


class Log:
    """The deeds of a hand in the order in which it took them; made by open_log."""

    def __init__(self, disk, head, deeds, used):
        self.disk = disk
        self.first_record = head
        self.entries = deeds
        self.used = used
        self.cuts_then = disk.cut_count()

    def head(self):
        """The tuple (hands, number, bound)."""
        return self.first_record

    def deeds(self):
        """The list of the deeds."""
        return list(self.entries)

    def append(self, deed):
        """Writes one more deed; how many there are then."""
        self.check_usable()
        blocks = encode_record(len(self.entries) + 1, write_deed(deed))
        if len(blocks) > self.free_blocks():
            raise LogFull(f"the deed needs {len(blocks)} blocks, {self.free_blocks()} are left")
        write_blocks(self.disk, self.used, blocks)
        self.entries = self.entries + (deed,)
        self.used += len(blocks)
        return len(self.entries)

    def room(self, deeds):
        """Whether all the deeds could be appended, but for a power cut."""
        return sum([piece_count(write_deed(deed)) for deed in deeds]) <= self.free_blocks()

    def sync(self):
        """Flushes the disk."""
        self.check_usable()
        self.disk.flush()

    def free_blocks(self):
        """How many blocks are left."""
        return self.disk.size() - self.used

    def is_usable(self):
        """Whether the power of the disk was not cut since the log was opened."""
        return self.disk.cut_count() == self.cuts_then

    def check_usable(self):
        """Raises an error if the power of the disk was cut."""
        if not self.is_usable():
            raise NotOpen("the power of the disk was cut")


def head_text(head):
    """The text of record 0."""
    hands, number, bound = head
    return f"hands {hands} {number} {bound}"


def read_head(disk):
    """The tuple (hands, number, bound) of record 0, or None if it cannot be read."""
    text = read_record(disk, 0, 0)
    return None if text is None else head_of(text)


def head_of(text):
    """The tuple (hands, number, bound) of which this is the text, or None."""
    words = text.split(" ")
    numbers = [read_number(word) for word in words[1:]]
    if words[0] != "hands" or len(numbers) != 3 or None in numbers:
        return None
    hands, number, bound = numbers
    try:
        check_head(hands, number, bound)
    except OutOfRange:
        return None
    return (hands, number, bound)


def read_deeds(disk, head):
    """The tuple of the deeds that can be read, and how many blocks they and record 0 take."""
    deeds, used = (), piece_count(head_text(head))
    deed = read_next(disk, used, head, deeds)
    while deed is not None:
        deeds = deeds + (deed,)
        used += piece_count(write_deed(deed))
        deed = read_next(disk, used, head, deeds)
    return deeds, used


def read_next(disk, at, head, deeds):
    """The deed whose record begins at this block, if it fits behind these deeds; None otherwise."""
    hands, _, bound = head
    text = read_record(disk, at, len(deeds) + 1)
    deed = None if text is None else read_deed(hands, text)
    if deed is None or not fits(deeds, hands, bound, deed):
        return None
    return deed


def read_record(disk, at, number):
    """The text of the record with this number that begins at this block; None if there is none."""
    first = decode_piece(disk.read(at)) if at < disk.size() else None
    if first is None:
        return None
    many = first[1]
    if many > PIECES_MOST or at + many > disk.size():
        return None
    blocks = [disk.read(place) for place in range(at, at + many)]
    pieces = [decode_piece(block) for block in blocks]
    if None in pieces:
        return None
    text = "".join([piece[3] for piece in pieces])
    # So the pieces are in order, of one record, and all but the last one are full.
    return text if blocks == encode_record(number, text) else None


def write_blocks(disk, at, blocks):
    """Writes the blocks one after another, from this one on."""
    for place, block in enumerate(blocks):
        disk.write(at + place, block)


def clear_from(disk, at):
    """Writes zeros to all blocks from this one on."""
    for place in range(at, disk.size()):
        disk.write(place, [0] * BLOCK)
