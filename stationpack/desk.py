"""The desk: calls come in as one list of numbers, answers go out as another."""

from stationpack.block import read_head
from stationpack.reader import Reader
from stationpack.refusals import NoRoom, NotABlock, NotACall, NothingThere, NotInOrder, OutOfRange
from stationpack.station import Station
from stationpack.unblock import earlier_count, joined_block, row_at, rows_from, rows_of_block

BEGIN = 1
ADD = 2
WAITS = 3
PACK = 4
HEAD = 5
ROWS = 6
ROW = 7
EARLIER = 8
FROM = 9
JOINED = 10


def answers(calls):
    reader = Reader(calls)
    station = Station()
    given = []
    while reader.left() > 0:
        answer = answer_of(station, reader)
        given.append(len(answer))
        given.extend(answer)
    return given


def answer_of(station, reader):
    try:
        return accepted(station, reader)
    except OutOfRange:
        return [-1]
    except NothingThere:
        return [-2]
    except NotABlock:
        return [-3]
    except NotInOrder:
        return [-4]
    except NoRoom:
        return [-5]


# Each call's arguments are taken whole before it is carried out: a refusal
# leaves the reader at the next call.
def accepted(station, reader):
    call = reader.take()
    if call == BEGIN:
        station.begin()
        return [0]
    if call == ADD:
        row = reader.take_many(4)
        return [station.add(row[0], row[1], row[2], row[3])]
    if call == WAITS:
        return [station.waits(reader.take())]
    if call == PACK:
        block = station.pack(reader.take())
        return [len(block)] + block
    return of_blocks(call, reader)


# No call of these has the station: what waits stays as it is.
def of_blocks(call, reader):
    if call == HEAD:
        return head_answer(read_head(reader.take_counted()))
    if call == ROWS:
        return rows_answer(read_head(reader.take_counted()))
    if call == ROW:
        place = reader.take()
        return [0] + list(row_at(place, reader.take_counted()))
    if call == EARLIER:
        time = reader.take()
        return [earlier_count(time, reader.take_counted())]
    if call == FROM:
        time = reader.take()
        most = reader.take()
        rows = rows_from(time, most, reader.take_counted())
        return [len(rows)] + numbers_of(rows)
    if call == JOINED:
        first = reader.take_counted()
        block = joined_block(first, reader.take_counted())
        return [len(block)] + block
    raise NotACall()


def head_answer(head):
    answer = [head.row_count, head.channel]
    for group in head.groups:
        answer.extend([group.first_time, len(group.told)])
    return answer


def rows_answer(head):
    return [head.row_count, head.channel] + numbers_of(rows_of_block(head))


def numbers_of(rows):
    numbers = []
    for row in rows:
        numbers.extend(row)
    return numbers
