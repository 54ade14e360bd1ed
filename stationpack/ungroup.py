"""The rows of a group, from its bytes."""

from stationpack.coding import sums_of, take_byte, take_side_by_side, take_small, unfolded
from stationpack.group import group_bytes
from stationpack.limits import GREATEST, NO_VALUE
from stationpack.reader import Reader
from stationpack.refusals import NotABlock


def group_rows(told, first_time, row_count):
    reader = Reader(told)
    times = take_times(reader, first_time, row_count)
    values = take_values(reader, row_count)
    qualities = take_qualities(reader, row_count)
    rows = list(zip(times, values, qualities))
    # The same rows are packed in one way only: all that is told otherwise than
    # it must be, and bytes left over, show here.
    if group_bytes(rows) != told:
        raise NotABlock()
    return rows


def take_times(reader, first_time, row_count):
    if row_count == 1:
        return [first_time]
    steps = take_time_steps(reader, row_count - 1)
    if min(steps) < 0 or first_time + sum(steps) > GREATEST:
        raise NotABlock()
    return sums_of([first_time] + steps)


def take_time_steps(reader, step_count):
    step = take_small(reader)
    steps = [step]
    while len(steps) < step_count:
        told = take_small(reader)
        if told % 2 == 1:
            noughts = (told + 1) // 2
            # Ahead of making them: a run may be told far longer than any list.
            if noughts > step_count - len(steps):
                raise NotABlock()
            steps.extend([step] * noughts)
        else:
            step += unfolded(told // 2)
            steps.append(step)
    return steps


def take_values(reader, row_count):
    marks = take_nones(reader, row_count)
    present = take_present(reader, marks.count(0))
    values = []
    place = 0
    for mark in marks:
        if mark == 1:
            values.append(NO_VALUE)
        else:
            values.append(present[place])
            place += 1
    return values


def take_nones(reader, row_count):
    kind = take_byte(reader)
    if kind == 0:
        return [0] * row_count
    if kind == 1:
        return take_side_by_side(reader, row_count, 1)
    if kind == 2:
        return [1] * row_count
    raise NotABlock()


def take_present(reader, value_count):
    if value_count == 0:
        return []
    values = take_by_way(reader, value_count)
    if min(values) < -GREATEST or max(values) > GREATEST:
        raise NotABlock()
    return values


def take_by_way(reader, value_count):
    way = take_byte(reader)
    if way == 0:
        return take_folded(reader, value_count)
    if way == 1:
        return sums_of(take_folded(reader, value_count))
    if way == 2:
        told = take_folded(reader, value_count)
        return sums_of(told[:1] + sums_of(told[1:]))
    if way == 3:
        return take_above_least(reader, value_count)
    raise NotABlock()


def take_folded(reader, many):
    return [unfolded(take_small(reader)) for k in range(many)]


def take_above_least(reader, value_count):
    least = unfolded(take_small(reader))
    width = take_byte(reader)
    return [least + above for above in take_side_by_side(reader, value_count, width)]


def take_qualities(reader, row_count):
    run_count = take_byte(reader)
    if run_count == 0:
        return [0] * row_count
    qualities = []
    for k in range(run_count):
        quality = take_byte(reader)
        qualities.extend([quality] * take_byte(reader))
    if len(qualities) != row_count:
        raise NotABlock()
    return qualities
