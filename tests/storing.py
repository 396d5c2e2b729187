"""What the tests of blocks, logs, houses and links share.

The plain functions say points 27 to 29 of the document word by word, without the
program's own blocks, records and logs.
"""

from making import plain_allowed, plain_version, plain_within
from textatrest.disks import Disk

ZEROS = [0] * 32


def plain_blocks(number, text):
    """Point 27: the blocks of a record."""
    pieces = [text[at:at + 24] for at in range(0, len(text), 24)]
    blocks = []
    for index, piece in enumerate(pieces):
        codes = list(piece.encode("ascii"))
        codes += [0] * (24 - len(codes))
        blocks.append([82, index, len(pieces), number // 256, number % 256, len(piece), *codes, 0, 82])
    return blocks


def plain_piece(block):
    """Point 27: the piece of a block, or None."""
    if (block[0], block[31]) != (82, 82):
        return None
    index, many, length = block[1], block[2], block[5]
    if not index < many or length not in range(1, 25):
        return None
    codes = block[6:6 + length]
    if [code for code in codes if code not in range(32, 127) or code == 37]:
        return None
    if block[6 + length:31] != [0] * (25 - length):
        return None
    return (index, many, block[3] * 256 + block[4], bytes(codes).decode("ascii"))


def plain_sign(sign):
    return "%d:%d:%d" % sign


def plain_form(deed):
    """Point 24: the written form of a deed."""
    hand, number, clock, seen, act = deed
    parts = [str(part) for part in (hand, number, clock, *seen)] + [act[0]]
    if act[0] == "put":
        parts += ["none" if act[1] is None else plain_sign(act[1]), '"%s"' % act[2]]
    elif act[0] == "cut":
        parts += [plain_sign(sign) for sign in act[1]]
    elif act[0] == "mark":
        parts += [plain_sign(act[1]), plain_sign(act[2]), '"%s"' % act[3]]
    elif act[0] == "toggle":
        parts.append(str(act[1]))
    return " ".join(parts)


def plain_log(head, deeds):
    """Point 28: the blocks of a log."""
    blocks = plain_blocks(0, "hands %d %d %d" % head)
    for at, deed in enumerate(deeds):
        blocks += plain_blocks(at + 1, plain_form(deed))
    return blocks


def plain_need(deed):
    """How many blocks the record of a deed needs."""
    return len(plain_blocks(1, plain_form(deed)))


def plain_fits(hands, bound, before, deed):
    """Point 29: whether a deed fits behind those before it."""
    hand, number, clock, seen, act = deed
    there = plain_version(hands, before)
    known = plain_within(before, seen)
    return (
        number == there[hand] == seen[hand]
        and all(mine <= has for mine, has in zip(seen, there))
        and all(mine >= needed for other in known for mine, needed in zip(seen, other[3]))
        and clock == 1 + max([other[2] for other in known], default=0)
        and plain_allowed(before, bound, deed)
    )


def image_of(disk):
    """All blocks of a disk, as they are read."""
    return [disk.read(at) for at in range(disk.size())]


def padded(blocks, size):
    """The blocks, and zeros behind them."""
    return blocks + [ZEROS] * (size - len(blocks))


def disk_with(blocks, size):
    """A disk with these blocks, all of them flushed."""
    disk = Disk(size)
    for at, block in enumerate(blocks):
        disk.write(at, block)
    disk.flush()
    return disk


# Torn writes of nothing, of one byte, of some, of all but one, of all, and of several.
TORN = (
    [], [0, 32, 32], [1], [13], [31], [32], [32, 1], [32, 13], [32, 31], [32, 32, 7], [1, 32], [31, 0, 32], [32] * 400,
)
