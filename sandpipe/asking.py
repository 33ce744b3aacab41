"""The calls that look at a pipe and leave it as it is."""

from sandpipe.measures import given
from sandpipe.measures import goes_at
from sandpipe.measures import joint_pressures
from sandpipe.measures import lifted
from sandpipe.measures import lost
from sandpipe.measures import settling_speed
from sandpipe.refusals import DOES_NOT_GO
from sandpipe.refusals import NO_SUCH
from sandpipe.refusals import OUT_OF_RANGE

LEAST_SPEED = 1
MOST_SPEED = 99


def is_speed(speed):
    return LEAST_SPEED <= speed <= MOST_SPEED


def loses(pipe, number, speed):
    if number >= len(pipe.pieces):
        return [NO_SUCH]
    if not is_speed(speed):
        return [OUT_OF_RANGE]
    piece = pipe.pieces[number]
    return [lost(pipe, piece, speed), lifted(pipe, piece)]


def settles(pipe, number):
    if number >= len(pipe.pieces):
        return [NO_SUCH]
    return [settling_speed(pipe, pipe.pieces[number])]


def gives(pipe, number, speed):
    if number >= len(pipe.pumps):
        return [NO_SUCH]
    if not is_speed(speed):
        return [OUT_OF_RANGE]
    return [given(pipe.pumps[number], speed)]


def pressures(pipe, speed):
    if not is_speed(speed):
        return [OUT_OF_RANGE]
    found = joint_pressures(pipe, speed)
    return [len(found)] + found


def goes(pipe, speed):
    if not is_speed(speed):
        return [OUT_OF_RANGE]
    return [1 if goes_at(pipe, speed) else 0]


def slowest(pipe):
    for speed in range(LEAST_SPEED, MOST_SPEED + 1):
        if goes_at(pipe, speed):
            return [speed]
    return [DOES_NOT_GO]
