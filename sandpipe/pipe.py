"""The way in: a list of calls is answered by a list of answers."""

from sandpipe.asking import blocks
from sandpipe.asking import fastest
from sandpipe.asking import flow
from sandpipe.asking import gives
from sandpipe.asking import goes
from sandpipe.asking import least
from sandpipe.asking import look
from sandpipe.asking import loses
from sandpipe.asking import most
from sandpipe.asking import pressures
from sandpipe.asking import settles
from sandpipe.asking import slowest
from sandpipe.asking import spare
from sandpipe.asking import state
from sandpipe.asking import why
from sandpipe.building import add_piece
from sandpipe.building import add_pump
from sandpipe.building import begin
from sandpipe.building import change_grain
from sandpipe.building import change_mix
from sandpipe.building import cut_piece
from sandpipe.building import switch_pump
from sandpipe.parts import Pipe
from sandpipe.planning import farther
from sandpipe.planning import fewest
from sandpipe.planning import richest
from sandpipe.refusals import NOT_BEGUN

# How many numbers stand behind a call's own, by that number.
ARGUMENT_COUNTS = (4, 3, 2, 2, 1, 1, 0, 2, 1, 2, 1, 1, 0, 0, 1, 1, 1, 1, 1, 1, 1, 2, 1, 1, 0)

# The last numbers of the runs in which the calls are told apart below.
LAST_CHANGE = 6
LAST_MEASURE = 13
LAST_BY_SPEED = 20


def answer_change(pipe, number, told):
    if number == 1:
        return add_piece(pipe, told[0], told[1], told[2])
    if number == 2:
        return add_pump(pipe, told[0], told[1])
    if number == 3:
        return switch_pump(pipe, told[0], told[1])
    if number == 4:
        return change_mix(pipe, told[0])
    if number == 5:
        return change_grain(pipe, told[0])
    return cut_piece(pipe)


def answer_measure(pipe, number, told):
    if number == 7:
        return loses(pipe, told[0], told[1])
    if number == 8:
        return settles(pipe, told[0])
    if number == 9:
        return gives(pipe, told[0], told[1])
    if number == 10:
        return pressures(pipe, told[0])
    if number == 11:
        return goes(pipe, told[0])
    if number == 12:
        return slowest(pipe)
    return fastest(pipe)


def answer_by_speed(pipe, number, speed):
    if number == 14:
        return why(pipe, speed)
    if number == 15:
        return blocks(pipe, speed)
    if number == 16:
        return least(pipe, speed)
    if number == 17:
        return most(pipe, speed)
    if number == 18:
        return spare(pipe, speed)
    if number == 19:
        return fewest(pipe, speed)
    return richest(pipe, speed)


def answer_rest(pipe, number, told):
    if number == 21:
        return farther(pipe, told[0], told[1])
    if number == 22:
        return flow(pipe, told[0])
    if number == 23:
        return look(pipe, told[0])
    return state(pipe)


def answer_call(pipe, number, told):
    if number == 0:
        return begin(pipe, told[0], told[1], told[2], told[3])
    if not pipe.begun:
        return [NOT_BEGUN]
    if number <= LAST_CHANGE:
        return answer_change(pipe, number, told)
    if number <= LAST_MEASURE:
        return answer_measure(pipe, number, told)
    if number <= LAST_BY_SPEED:
        return answer_by_speed(pipe, number, told[0])
    return answer_rest(pipe, number, told)


def answers(calls):
    """For each call how many numbers are answered, then these."""
    pipe = Pipe()
    found = []
    place = 0
    while place < len(calls):
        number = calls[place]
        behind = place + 1 + ARGUMENT_COUNTS[number]
        answer = answer_call(pipe, number, calls[place + 1:behind])
        found.append(len(answer))
        found.extend(answer)
        place = behind
    return found
