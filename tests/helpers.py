"""Calls as lists of numbers, and blocks read back by another hand than the program's."""

from stationpack.desk import answers

NONE = -2 ** 63
TOP = 2 ** 62


def split(given):
    found = []
    place = 0
    while place < len(given):
        many = given[place]
        found.append(given[place + 1:place + 1 + many])
        place += 1 + many
    return found


def ask(*calls):
    return split(answers([number for call in calls for number in call]))


def begin():
    return [1]


def add(c, time, v=0, q=0):
    return [2, c, time, v, q]


def waits(c):
    return [3, c]


def pack(c):
    return [4, c]


def head(block):
    return [5, len(block)] + block


def packed(rows, c=0):
    answer = ask(*[add(c, *row) for row in rows], pack(c))[-1]
    assert answer[0] == len(answer) - 1, answer
    return answer[1:]


def group_of(rows):
    """The bytes of the one group that rows of one group are packed into."""
    block = packed(rows)
    answer = ask(head(block))[0]
    assert len(answer) == 4, answer
    return block[len(block) - answer[3]:]


class Unpacker:
    """Reads a block that is one; whatever it finds is answered as rows."""

    def __init__(self, block):
        self.left = list(block)
        self.ways = []

    def byte(self):
        return self.left.pop(0)

    def small(self):
        number, shift = 0, 0
        while True:
            part = self.byte()
            number |= (part & 127) << shift
            shift += 7
            if part < 128:
                return number

    def unfolded(self):
        number = self.small()
        return -(number + 1) // 2 if number % 2 else number // 2

    def bits(self, many, width):
        whole = int.from_bytes(bytes(self.byte() for _ in range((many * width + 7) // 8)), "little")
        return [whole >> (k * width) & ((1 << width) - 1) for k in range(many)]

    def times(self, first, many):
        if many == 1:
            return [first]
        steps = [self.small()]
        while len(steps) < many - 1:
            told = self.small()
            if told % 2:
                steps += [steps[-1]] * ((told + 1) // 2)
            else:
                half = told // 2
                steps.append(steps[-1] + (-(half + 1) // 2 if half % 2 else half // 2))
        return summed([first] + steps)

    def values(self, many):
        way = self.byte()
        self.ways.append(way)
        if way == 3:
            least = self.unfolded()
            return [least + far for far in self.bits(many, self.byte())]
        told = [self.unfolded() for _ in range(many)]
        if way == 2:
            told = told[:1] + summed(told[1:])
        return summed(told) if way else told

    def qualities(self, many):
        runs = self.byte()
        if runs == 0:
            return [0] * many
        found = []
        for _ in range(runs):
            quality = self.byte()
            found += [quality] * self.byte()
        return found

    def group(self, first, many):
        times = self.times(first, many)
        kind = self.byte()
        nones = self.bits(many, 1) if kind == 1 else [kind // 2] * many
        values = self.values(nones.count(0)) if 0 in nones else []
        values = [NONE if none else values.pop(0) for none in nones]
        return list(zip(times, values, self.qualities(many)))

    def block(self):
        channel = self.byte()
        many = self.small()
        firsts, sizes = [], []
        for _ in range((many + 63) // 64):
            firsts.append(self.small())
            sizes.append(self.small())
        rows = []
        for k, first in enumerate(summed(firsts)):
            before = len(self.left)
            rows += self.group(first, min(64, many - 64 * k))
            assert before - len(self.left) == sizes[k]
        assert self.left == []
        return channel, rows


def summed(numbers):
    found, whole = [], 0
    for number in numbers:
        whole += number
        found.append(whole)
    return found
