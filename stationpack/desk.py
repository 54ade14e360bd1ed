"""The desk: calls come in as one list of numbers, answers go out as another."""

from stationpack.block import read_head
from stationpack.reader import Reader
from stationpack.refusals import NoRoom, NotABlock, NotBuilt, NothingThere, NotInOrder, OutOfRange
from stationpack.station import Station

BEGIN = 1
ADD = 2
WAITS = 3
PACK = 4
HEAD = 5


def answers(calls):
    reader = Reader(calls)
    station = Station()
    given = []
    while reader.left() > 0:
        answer = answer_of(station, reader)
        given.append(len(answer))
        given.extend(answer)
    return given


def answer_of(station, reader):
    try:
        return accepted(station, reader)
    except OutOfRange:
        return [-1]
    except NothingThere:
        return [-2]
    except NotABlock:
        return [-3]
    except NotInOrder:
        return [-4]
    except NoRoom:
        return [-5]


# Each call's arguments are taken whole before it is carried out: a refusal
# leaves the reader at the next call.
def accepted(station, reader):
    call = reader.take()
    if call == BEGIN:
        station.begin()
        return [0]
    if call == ADD:
        row = reader.take_many(4)
        return [station.add(row[0], row[1], row[2], row[3])]
    if call == WAITS:
        return [station.waits(reader.take())]
    if call == PACK:
        block = station.pack(reader.take())
        return [len(block)] + block
    if call == HEAD:
        size = reader.take()
        return head_answer(read_head(reader.take_many(size)))
    raise NotBuilt()


def head_answer(head):
    answer = [head.row_count, head.channel]
    for first_time, size in head.groups:
        answer.extend([first_time, size])
    return answer
