"""A block: its bytes from rows, and its head from bytes."""

from stationpack.coding import small_bytes, take_byte, take_small
from stationpack.group import group_bytes
from stationpack.limits import BLOCK_ROWS, GREATEST, GROUP_ROWS, LAST_CHANNEL
from stationpack.reader import Reader
from stationpack.refusals import NotABlock


class Head:
    def __init__(self, channel, row_count, groups):
        self.channel = channel
        self.row_count = row_count
        # A tuple for each group: its first time, how many bytes it has.
        self.groups = groups


def block_bytes(channel, rows):
    head = [channel] + small_bytes(len(rows))
    body = []
    before = 0
    for start in range(0, len(rows), GROUP_ROWS):
        group = rows[start:start + GROUP_ROWS]
        told = group_bytes(group)
        first_time = group[0][0]
        head.extend(small_bytes(first_time - before))
        head.extend(small_bytes(len(told)))
        body.extend(told)
        before = first_time
    return head + body


def read_head(block):
    reader = Reader(block)
    channel = take_byte(reader)
    if channel > LAST_CHANNEL:
        raise NotABlock()
    row_count = take_small(reader)
    if row_count < 1 or row_count > BLOCK_ROWS:
        raise NotABlock()
    groups = take_groups(reader, row_count)
    if sum([size for first_time, size in groups]) != reader.left():
        raise NotABlock()
    return Head(channel, row_count, groups)


def take_groups(reader, row_count):
    groups = []
    first_time = 0
    for start in range(0, row_count, GROUP_ROWS):
        first_time += take_small(reader)
        if first_time > GREATEST:
            raise NotABlock()
        size = take_small(reader)
        groups.append((first_time, size))
    return groups
