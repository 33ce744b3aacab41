"""The calls that look at a pipe as it stands."""

from sandpipe.limits import LEAST_SPEED
from sandpipe.limits import MOST_SPEED
from sandpipe.limits import is_speed
from sandpipe.measures import given
from sandpipe.measures import goes_at
from sandpipe.measures import hindrance
from sandpipe.measures import joint_pressures
from sandpipe.measures import lifted
from sandpipe.measures import litres
from sandpipe.measures import lost
from sandpipe.measures import settling_pieces
from sandpipe.measures import settling_speed
from sandpipe.refusals import DOES_NOT_GO
from sandpipe.refusals import NONE_THERE
from sandpipe.refusals import NO_SUCH
from sandpipe.refusals import OUT_OF_RANGE


def loses(pipe, number, speed):
    if number >= len(pipe.pieces):
        return [NO_SUCH]
    if not is_speed(speed):
        return [OUT_OF_RANGE]
    piece = pipe.pieces[number]
    return [lost(pipe, piece, speed), lifted(pipe, piece)]


def settles(pipe, number):
    if number >= len(pipe.pieces):
        return [NO_SUCH]
    return [settling_speed(pipe, pipe.pieces[number])]


def gives(pipe, number, speed):
    if number >= len(pipe.pumps):
        return [NO_SUCH]
    if not is_speed(speed):
        return [OUT_OF_RANGE]
    return [given(pipe.pumps[number], speed)]


def pressures(pipe, speed):
    if not is_speed(speed):
        return [OUT_OF_RANGE]
    found = joint_pressures(pipe, speed)
    return [len(found)] + found


def goes(pipe, speed):
    if not is_speed(speed):
        return [OUT_OF_RANGE]
    return [1 if goes_at(pipe, speed) else 0]


def slowest(pipe):
    for speed in range(LEAST_SPEED, MOST_SPEED + 1):
        if goes_at(pipe, speed):
            return [speed]
    return [DOES_NOT_GO]


def fastest(pipe):
    for speed in range(MOST_SPEED, LEAST_SPEED - 1, -1):
        if goes_at(pipe, speed):
            return [speed]
    return [DOES_NOT_GO]


def why(pipe, speed):
    if not is_speed(speed):
        return [OUT_OF_RANGE]
    return hindrance(pipe, speed)


def blocks(pipe, speed):
    if not is_speed(speed):
        return [OUT_OF_RANGE]
    found = settling_pieces(pipe, speed)
    return [len(found)] + found


def least(pipe, speed):
    if not is_speed(speed):
        return [OUT_OF_RANGE]
    found = joint_pressures(pipe, speed)
    pressure = min(found)
    return [found.index(pressure), pressure]


def most(pipe, speed):
    if not is_speed(speed):
        return [OUT_OF_RANGE]
    found = joint_pressures(pipe, speed)
    pressure = max(found)
    return [found.index(pressure), pressure]


def spare(pipe, speed):
    if not is_speed(speed):
        return [OUT_OF_RANGE]
    if not goes_at(pipe, speed):
        return [DOES_NOT_GO]
    return [0, joint_pressures(pipe, speed)[len(pipe.pieces)]]


def flow(pipe, speed):
    if not is_speed(speed):
        return [OUT_OF_RANGE]
    if len(pipe.pieces) == 0:
        return [NONE_THERE]
    whole = litres(pipe, speed)
    return [whole, whole * pipe.mix // 100]


def look(pipe, number):
    if number >= len(pipe.pieces):
        return [NO_SUCH]
    piece = pipe.pieces[number]
    pumps = [place for place, pump in enumerate(pipe.pumps) if pump.at == number]
    return [piece.long, piece.rise, piece.wide] + pumps


def state(pipe):
    metres = sum([piece.long for piece in pipe.pieces])
    return [0, len(pipe.pieces), len(pipe.pumps), pipe.grain, pipe.mix, pipe.low, pipe.high, metres]
