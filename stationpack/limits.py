"""The ranges of what is handed in, and how much may stand together."""

from stationpack.refusals import OutOfRange

LAST_CHANNEL = 63
GREATEST = 4611686018427387904
NO_VALUE = -9223372036854775808
LAST_QUALITY = 255
BLOCK_ROWS = 1024
GROUP_ROWS = 64


def check_channel(channel):
    if channel < 0 or channel > LAST_CHANNEL:
        raise OutOfRange()


def check_time(time):
    if time < 0 or time > GREATEST:
        raise OutOfRange()


def check_value(value):
    if value == NO_VALUE:
        return
    if value < -GREATEST or value > GREATEST:
        raise OutOfRange()


def check_quality(quality):
    if quality < 0 or quality > LAST_QUALITY:
        raise OutOfRange()


def check_place(place):
    if place < 0:
        raise OutOfRange()


def check_most(most):
    if most < 0 or most > BLOCK_ROWS:
        raise OutOfRange()
