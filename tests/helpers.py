"""Calls as lists of numbers, and blocks read back by another hand than the program's."""

from stationpack.desk import answers

NONE = -2 ** 63
TOP = 2 ** 62


def split(given):
    found = []
    place = 0
    while place < len(given):
        many = given[place]
        found.append(given[place + 1:place + 1 + many])
        place += 1 + many
    return found


def ask(*calls):
    handed = [number for call in calls for number in call]
    assert len(handed) <= 16000 and len(calls) <= 3000, (len(handed), len(calls))
    return split(answers(handed))


def begin():
    return [1]


def add(c, time, v=0, q=0):
    return [2, c, time, v, q]


def waits(c):
    return [3, c]


def pack(c):
    return [4, c]


def head(block):
    return [5, len(block)] + block


def rows(block):
    return [6, len(block)] + block


def row(i, block):
    return [7, i, len(block)] + block


def earlier(t, block):
    return [8, t, len(block)] + block


def from_(t, most, block):
    return [9, t, most, len(block)] + block


def joined(first, second):
    return [10, len(first)] + first + [len(second)] + second


def flat(found):
    """Rows as they are answered, number by number."""
    return [number for each in found for number in each]


def packed(found, c=0):
    answer = ask(*[add(c, *each) for each in found], pack(c))[-1]
    assert answer[0] == len(answer) - 1, answer
    return answer[1:]


def group_of(found):
    """The bytes of the one group that rows of one group are packed into."""
    block = packed(found)
    answer = ask(head(block))[0]
    assert len(answer) == 4, answer
    return block[len(block) - answer[3]:]


def small(number):
    told = []
    while number > 127:
        told.append(number % 128 + 128)
        number //= 128
    return told + [number]


def fold(number):
    return small(2 * number if number >= 0 else -2 * number - 1)


def side_by_side(numbers, width):
    whole = sum(number << (width * k) for k, number in enumerate(numbers))
    return list(whole.to_bytes((width * len(numbers) + 7) // 8, "little"))


def block_of(many, groups, c=0):
    """A block of many rows with these groups, each its first time and its bytes, whatever they are."""
    told, before = [c] + small(many), 0
    for first, group in groups:
        told += small(first - before) + small(len(group))
        before = first
    return told + flat(group for first, group in groups)


def groups_of(block):
    """The groups of a block, as block_of takes them."""
    answer = ask(head(block))[0]
    sizes = answer[3::2]
    start = len(block) - sum(sizes)
    ends = summed([start] + sizes)
    return [(first, block[ends[k]:ends[k + 1]]) for k, first in enumerate(answer[2::2])]


def made_numbers(seed):
    """Numbers that look like none in particular, the same each time."""
    while True:
        seed = (seed * 6364136223846793005 + 1442695040888963407) % 2 ** 64
        yield seed >> 20


def made_rows(many):
    source = made_numbers(many)
    found, time = [], next(source) % 1000
    for k in range(many):
        kind = k // 64 % 5
        time += 60 if next(source) % 4 else next(source) % (2 ** (8 * kind))
        width = [3, 300, 2 ** 20, 2 ** 43, 5][kind]
        value = next(source) % width - width // 2 if next(source) % (kind + 2) or kind == 2 else NONE
        found.append((time, value, next(source) % 3 if kind % 2 else 0))
    return found


class Unpacker:
    """Reads a block that is one; whatever it finds is answered as rows."""

    def __init__(self, block):
        self.left = list(block)
        self.ways = []

    def byte(self):
        return self.left.pop(0)

    def small(self):
        number, shift = 0, 0
        while True:
            part = self.byte()
            number |= (part & 127) << shift
            shift += 7
            if part < 128:
                return number

    def unfolded(self):
        number = self.small()
        return -(number + 1) // 2 if number % 2 else number // 2

    def bits(self, many, width):
        whole = int.from_bytes(bytes(self.byte() for _ in range((many * width + 7) // 8)), "little")
        return [whole >> (k * width) & ((1 << width) - 1) for k in range(many)]

    def times(self, first, many):
        if many == 1:
            return [first]
        steps = [self.small()]
        while len(steps) < many - 1:
            told = self.small()
            if told % 2:
                steps += [steps[-1]] * ((told + 1) // 2)
            else:
                half = told // 2
                steps.append(steps[-1] + (-(half + 1) // 2 if half % 2 else half // 2))
        return summed([first] + steps)

    def values(self, many):
        way = self.byte()
        self.ways.append(way)
        if way == 3:
            least = self.unfolded()
            return [least + far for far in self.bits(many, self.byte())]
        told = [self.unfolded() for _ in range(many)]
        if way == 2:
            told = told[:1] + summed(told[1:])
        return summed(told) if way else told

    def qualities(self, many):
        runs = self.byte()
        if runs == 0:
            return [0] * many
        found = []
        for _ in range(runs):
            quality = self.byte()
            found += [quality] * self.byte()
        return found

    def group(self, first, many):
        times = self.times(first, many)
        kind = self.byte()
        nones = self.bits(many, 1) if kind == 1 else [kind // 2] * many
        values = self.values(nones.count(0)) if 0 in nones else []
        values = [NONE if none else values.pop(0) for none in nones]
        return list(zip(times, values, self.qualities(many)))

    def block(self):
        channel = self.byte()
        many = self.small()
        firsts, sizes = [], []
        for _ in range((many + 63) // 64):
            firsts.append(self.small())
            sizes.append(self.small())
        rows = []
        for k, first in enumerate(summed(firsts)):
            before = len(self.left)
            rows += self.group(first, min(64, many - 64 * k))
            assert before - len(self.left) == sizes[k]
        assert self.left == []
        return channel, rows


def summed(numbers):
    found, whole = [], 0
    for number in numbers:
        whole += number
        found.append(whole)
    return found
