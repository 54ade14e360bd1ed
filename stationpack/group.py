"""The bytes of a group: 1 to 64 rows, each a tuple of time, value, quality."""

from stationpack.coding import folded, side_by_side, small_bytes, steps_of
from stationpack.limits import NO_VALUE


def group_bytes(rows):
    told = times_bytes([row[0] for row in rows])
    told.extend(nones_bytes([row[1] for row in rows]))
    values = [row[1] for row in rows if row[1] != NO_VALUE]
    if len(values) > 0:
        told.extend(values_bytes(values))
    told.extend(qualities_bytes([row[2] for row in rows]))
    return told


def times_bytes(times):
    if len(times) == 1:
        return []
    first_steps = steps_of(times)
    told = small_bytes(first_steps[0])
    noughts = 0
    for step in steps_of(first_steps):
        if step == 0:
            noughts += 1
        else:
            told.extend(noughts_bytes(noughts))
            noughts = 0
            # Even, where a run of noughts is odd: so the two are told apart.
            told.extend(small_bytes(2 * folded(step)))
    told.extend(noughts_bytes(noughts))
    return told


def noughts_bytes(noughts):
    if noughts == 0:
        return []
    return small_bytes(2 * noughts - 1)


def nones_bytes(values):
    marks = [1 if value == NO_VALUE else 0 for value in values]
    if sum(marks) == 0:
        return [0]
    if sum(marks) == len(marks):
        return [2]
    return [1] + side_by_side(marks, 1)


def values_bytes(values):
    # Of several as short min takes the first, which is the lowest way.
    return min(ways_of(values), key=len)


def ways_of(values):
    first_steps = steps_of(values)
    ways = [[0] + folded_bytes(values)]
    if len(values) >= 2:
        ways.append([1] + folded_bytes(values[:1] + first_steps))
    if len(values) >= 3:
        ways.append([2] + folded_bytes(values[:1] + first_steps[:1] + steps_of(first_steps)))
    ways.append([3] + above_least_bytes(values))
    return ways


def folded_bytes(numbers):
    told = []
    for number in numbers:
        told.extend(small_bytes(folded(number)))
    return told


def above_least_bytes(values):
    least = min(values)
    width = (max(values) - least).bit_length()
    return small_bytes(folded(least)) + [width] + side_by_side([value - least for value in values], width)


def qualities_bytes(qualities):
    if max(qualities) == 0:
        return [0]
    runs = []
    for k, quality in enumerate(qualities):
        if k > 0 and quality == qualities[k - 1]:
            runs[-1] += 1
        else:
            runs.extend([quality, 1])
    return [len(runs) // 2] + runs
