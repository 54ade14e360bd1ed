"""What is asked of blocks: their rows, all or some, and two of them joined."""

from stationpack.block import block_bytes, read_head
from stationpack.limits import BLOCK_ROWS, GROUP_ROWS, check_most, check_place, check_time
from stationpack.refusals import NoRoom, NotABlock, NothingThere, NotInOrder
from stationpack.ungroup import group_rows


def rows_of_group(group):
    return group_rows(group.told, group.first_time, group.row_count)


def rows_of_block(head):
    rows = []
    for group in head.groups:
        if len(rows) > 0 and group.first_time < rows[-1][0]:
            raise NotABlock()
        rows.extend(rows_of_group(group))
    return rows


def row_at(place, block):
    check_place(place)
    head = read_head(block)
    if place >= head.row_count:
        raise NothingThere()
    return rows_of_group(head.groups[place // GROUP_ROWS])[place % GROUP_ROWS]


def earlier_count(time, block):
    check_time(time)
    head = read_head(block)
    # First times never go back: those before the time are the first ones.
    before = [group for group in head.groups if group.first_time < time]
    if len(before) == 0:
        return 0
    earlier = [row for row in rows_of_group(before[-1]) if row[0] < time]
    return GROUP_ROWS * (len(before) - 1) + len(earlier)


def rows_from(time, most, block):
    check_time(time)
    check_most(most)
    rows = rows_of_block(read_head(block))
    return [row for row in rows if row[0] >= time][:most]


def joined_block(first, second):
    first_head = read_head(first)
    first_rows = rows_of_block(first_head)
    second_head = read_head(second)
    second_rows = rows_of_block(second_head)
    if first_head.channel != second_head.channel or second_rows[0][0] < first_rows[-1][0]:
        raise NotInOrder()
    if len(first_rows) + len(second_rows) > BLOCK_ROWS:
        raise NoRoom()
    return block_bytes(first_head.channel, first_rows + second_rows)
