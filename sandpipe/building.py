"""The calls that change a pipe. Each looks for every refusal before it changes anything."""

from sandpipe.limits import MOST_PIECES
from sandpipe.limits import MOST_PUMPS
from sandpipe.limits import is_grain
from sandpipe.limits import is_mix
from sandpipe.limits import is_piece
from sandpipe.parts import Piece
from sandpipe.parts import Pump
from sandpipe.refusals import ALREADY
from sandpipe.refusals import NONE_THERE
from sandpipe.refusals import NO_SUCH
from sandpipe.refusals import OUT_OF_RANGE
from sandpipe.refusals import PUMP_THERE
from sandpipe.refusals import TOO_MANY


def begin(pipe, grain, mix, low, high):
    if not is_grain(grain) or not is_mix(mix):
        return [OUT_OF_RANGE]
    if not -100 <= low <= 0 or not 1 <= high <= 3000:
        return [OUT_OF_RANGE]
    pipe.begun = True
    pipe.grain = grain
    pipe.mix = mix
    pipe.low = low
    pipe.high = high
    pipe.pieces = []
    pipe.pumps = []
    return [0]


def add_piece(pipe, long, rise, wide):
    if not is_piece(long, rise, wide):
        return [OUT_OF_RANGE]
    number = len(pipe.pieces)
    if number >= MOST_PIECES:
        return [TOO_MANY]
    pipe.pieces.append(Piece(long, rise, wide))
    return [number]


def add_pump(pipe, at, adds):
    if at >= len(pipe.pieces):
        return [NO_SUCH]
    if not 1 <= adds <= 1000:
        return [OUT_OF_RANGE]
    number = len(pipe.pumps)
    if number >= MOST_PUMPS:
        return [TOO_MANY]
    pipe.pumps.append(Pump(at, adds, 1))
    return [number]


def switch_pump(pipe, number, runs):
    if number >= len(pipe.pumps):
        return [NO_SUCH]
    if runs > 1:
        return [OUT_OF_RANGE]
    pump = pipe.pumps[number]
    if pump.runs == runs:
        return [ALREADY]
    pump.runs = runs
    return [0]


def change_mix(pipe, mix):
    if not is_mix(mix):
        return [OUT_OF_RANGE]
    before = pipe.mix
    pipe.mix = mix
    return [before]


def change_grain(pipe, grain):
    if not is_grain(grain):
        return [OUT_OF_RANGE]
    before = pipe.grain
    pipe.grain = grain
    return [before]


def cut_piece(pipe):
    if len(pipe.pieces) == 0:
        return [NONE_THERE]
    last = len(pipe.pieces) - 1
    # A pump that is off stands there all the same.
    for pump in pipe.pumps:
        if pump.at == last:
            return [PUMP_THERE]
    pipe.pieces.pop()
    return [last]
