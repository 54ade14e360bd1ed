"""How single numbers, and numbers side by side, are told in bytes."""

from stationpack.refusals import NotABlock

SMALL_BYTES = 10


def folded(number):
    if number < 0:
        return -2 * number - 1
    return 2 * number


def unfolded(number):
    if number % 2 == 1:
        return -(number + 1) // 2
    return number // 2


def steps_of(numbers):
    return [numbers[k + 1] - numbers[k] for k in range(len(numbers) - 1)]


def sums_of(steps):
    sums = []
    whole = 0
    for step in steps:
        whole += step
        sums.append(whole)
    return sums


def small_bytes(number):
    told = []
    rest = number
    while rest >= 128:
        told.append(rest % 128 + 128)
        rest = rest // 128
    told.append(rest)
    return told


def side_by_side(numbers, width):
    told = []
    held = 0
    filled = 0
    for number in numbers:
        held += number << filled
        filled += width
        while filled >= 8:
            told.append(held % 256)
            held = held // 256
            filled -= 8
    if filled > 0:
        told.append(held)
    return told


def take_byte(reader):
    if reader.left() == 0:
        raise NotABlock()
    return reader.take()


def take_small(reader):
    number = 0
    worth = 1
    for k in range(SMALL_BYTES):
        part = take_byte(reader)
        number += part % 128 * worth
        if part < 128:
            # A last byte of 0 adds nothing: the number could be told in fewer bytes.
            if part == 0 and k > 0:
                raise NotABlock()
            return number
        worth = worth * 128
    raise NotABlock()


def take_side_by_side(reader, many, width):
    numbers = []
    held = 0
    filled = 0
    for k in range(many):
        while filled < width:
            held += take_byte(reader) << filled
            filled += 8
        numbers.append(held % (1 << width))
        held = held >> width
        filled -= width
    return numbers
