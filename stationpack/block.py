"""A block: its bytes from rows, and its head from bytes."""

from stationpack.coding import small_bytes, take_byte, take_small
from stationpack.group import group_bytes
from stationpack.limits import BLOCK_ROWS, GREATEST, GROUP_ROWS, LAST_CHANNEL
from stationpack.reader import Reader
from stationpack.refusals import NotABlock


# As the head tells it: its bytes, told, need not be those of any rows.
class Group:
    def __init__(self, first_time, row_count, told):
        self.first_time = first_time
        self.row_count = row_count
        self.told = told


class Head:
    def __init__(self, channel, row_count, groups):
        self.channel = channel
        self.row_count = row_count
        self.groups = groups


def block_bytes(channel, rows):
    head = [channel] + small_bytes(len(rows))
    body = []
    before = 0
    for start in range(0, len(rows), GROUP_ROWS):
        group = rows[start:start + GROUP_ROWS]
        told = group_bytes(group)
        first_time = group[0][0]
        head.extend(small_bytes(first_time - before))
        head.extend(small_bytes(len(told)))
        body.extend(told)
        before = first_time
    return head + body


def read_head(block):
    reader = Reader(block)
    channel = take_byte(reader)
    if channel > LAST_CHANNEL:
        raise NotABlock()
    row_count = take_small(reader)
    if row_count < 1 or row_count > BLOCK_ROWS:
        raise NotABlock()
    return Head(channel, row_count, take_groups(reader, row_count))


def take_groups(reader, row_count):
    beginnings = take_beginnings(reader, row_count)
    if sum([size for first_time, size in beginnings]) != reader.left():
        raise NotABlock()
    groups = []
    rows_left = row_count
    for first_time, size in beginnings:
        group_count = min(rows_left, GROUP_ROWS)
        groups.append(Group(first_time, group_count, reader.take_many(size)))
        rows_left -= group_count
    return groups


# A tuple for each group: its first time, how many bytes it has.
def take_beginnings(reader, row_count):
    beginnings = []
    first_time = 0
    for start in range(0, row_count, GROUP_ROWS):
        first_time += take_small(reader)
        if first_time > GREATEST:
            raise NotABlock()
        size = take_small(reader)
        beginnings.append((first_time, size))
    return beginnings
