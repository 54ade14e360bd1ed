"""A station: for each channel the rows that wait."""

from stationpack.block import block_bytes
from stationpack.limits import BLOCK_ROWS, LAST_CHANNEL
from stationpack.limits import check_channel, check_quality, check_time, check_value
from stationpack.refusals import NoRoom, NothingThere, NotInOrder


def no_rows():
    return [[] for channel in range(LAST_CHANNEL + 1)]


class Station:
    def __init__(self):
        self.waiting = no_rows()

    def begin(self):
        self.waiting = no_rows()

    def add(self, channel, time, value, quality):
        check_channel(channel)
        check_time(time)
        check_value(value)
        check_quality(quality)
        rows = self.waiting[channel]
        if len(rows) == BLOCK_ROWS:
            raise NoRoom()
        if len(rows) > 0 and time < rows[-1][0]:
            raise NotInOrder()
        rows.append((time, value, quality))
        return len(rows)

    def waits(self, channel):
        check_channel(channel)
        return len(self.waiting[channel])

    def pack(self, channel):
        check_channel(channel)
        rows = self.waiting[channel]
        if len(rows) == 0:
            raise NothingThere()
        self.waiting[channel] = []
        return block_bytes(channel, rows)
