"""The disk of the host, which can fall at any place, and the book of the ticks that it closed."""

from settledplay.base.checks import is_whole, is_within, need_whole, need_within
from settledplay.errors import InvalidDisk, InvalidRow, InvalidText
from settledplay.play.keys import can_follow, need_setup
from settledplay.rules.joints import is_joint_of_some
from settledplay.world.worlds import is_count, is_signed

MAX_BLOCK = 200


class Disk:
    """Blocks, of which the first ones are sure."""

    def __init__(self, blocks=(), sure=0):
        if not isinstance(blocks, tuple) or not all([is_block(block) for block in blocks]):
            raise InvalidDisk("blocks are a tuple of strings of at most 200 characters")
        if not is_within(sure, 0, len(blocks)):
            raise InvalidDisk("there are not so many blocks that could be sure")
        self._fill(blocks, sure)

    def _fill(self, blocks, sure):
        """Set all that a disk has; only for one that nobody has seen yet."""
        self.blocks = blocks
        self.sure = sure
        self.lasting = blocks[:sure]

    def written(self, text):
        """The disk with a further block."""
        if not is_block(text):
            raise InvalidText("a block is a string of at most 200 characters")
        return disk_of((*self.blocks, text), self.sure)

    def made_sure(self):
        """The disk, all blocks sure."""
        return disk_of(self.blocks, len(self.blocks))

    def fallen(self, many, signs):
        """The disk behind a fall that keeps so many blocks that are not sure, and so many signs of the next one."""
        need_within(many, 0, len(self.blocks) - self.sure)
        end = self.sure + many
        need_within(signs, 0, len(next_block(self, end)))
        return fallen_at(self, end, signs)

    def __len__(self):
        return len(self.blocks)

    def __eq__(self, other):
        return isinstance(other, Disk) and (self.blocks, self.sure) == (other.blocks, other.sure)


def disk_of(blocks, sure):
    """A disk of sure parts."""
    disk = Disk()
    disk._fill(blocks, sure)
    return disk


def is_block(value):
    """Whether the value is a string of at most 200 characters."""
    return isinstance(value, str) and len(value) <= MAX_BLOCK


def need_disk(value):
    """Refuse what is no disk."""
    if not isinstance(value, Disk):
        raise InvalidDisk("a disk is an object of its class")


def next_block(disk, end):
    """The block at an index, "" behind the last one."""
    return disk.blocks[end] if end < len(disk.blocks) else ""


def fallen_at(disk, end, signs):
    """The disk that keeps the blocks ahead of an index, and some signs of the one there."""
    torn = next_block(disk, end)[:signs]
    blocks = disk.blocks[:end] if torn == "" else (*disk.blocks[:end], torn)
    return disk_of(blocks, len(blocks))


def each_fall(disk):
    """The unlike disks that a fall can leave."""
    need_disk(disk)
    for end in range(disk.sure, len(disk.blocks) + 1):
        yield fallen_at(disk, end, 0)
        # A next block of which all signs stay is one more block that is kept whole.
        for signs in range(1, len(next_block(disk, end))):
            yield fallen_at(disk, end, signs)


def record_text(tick, joint):
    """The record of a tick and its joint word."""
    need_whole(tick)
    if not is_joint_of_some(joint):
        raise InvalidRow("a joint word is a tuple of 1 to 4 entries")
    entries = ",".join([str(entry) for entry in joint])
    return f"{tick}:{entries};"


def read_record(text):
    """The tick and the joint word of which the text is the record, None for another value."""
    if not isinstance(text, str) or not text.endswith(";"):
        return None
    head, _, rest = text.removesuffix(";").partition(":")
    words = rest.split(",")
    if not is_count(head) or not all([is_signed(word) for word in words]):
        return None
    tick = int(head)
    joint = tuple([int(word) for word in words])
    return (tick, joint) if is_whole(tick) and is_joint_of_some(joint) else None


def with_tick(disk, tick, joint):
    """The disk with a record as a further block."""
    need_disk(disk)
    return disk.written(record_text(tick, joint))


def read_book(setup, disk):
    """The row of the disk."""
    need_setup(setup)
    need_disk(disk)
    return row_read(setup, (), disk.blocks)


def row_read(setup, row, blocks):
    """The row with what is read of further blocks; a block that does not go on with it is passed by."""
    for block in blocks:
        record = read_record(block)
        if record is not None and record[0] == len(row) and can_follow(setup, row, record[1]):
            row = (*row, record[1])
    return row


def is_left_by(disk, value):
    """Whether the value is a disk that a fall of the disk can leave."""
    need_disk(disk)
    if not isinstance(value, Disk) or value.sure < len(value.blocks) or value.blocks[:disk.sure] != disk.lasting:
        return False
    kept = value.blocks[disk.sure:]
    unsure = disk.blocks[disk.sure:]
    if kept == unsure[:len(kept)]:
        return True
    # Of the last block that is kept some signs can be gone, but not all.
    at = len(kept) - 1
    return at < len(unsure) and kept[:at] == unsure[:at] and kept[at] != "" and unsure[at].startswith(kept[at])
