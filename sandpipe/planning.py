"""The calls that ask how it would go otherwise. What is tried is tried on copies: the pipe stays as it is."""

from sandpipe.limits import LONGEST
from sandpipe.limits import MOST_MIX
from sandpipe.limits import MOST_PIECES
from sandpipe.limits import SHORTEST
from sandpipe.limits import is_speed
from sandpipe.limits import is_width
from sandpipe.measures import goes_at
from sandpipe.parts import Piece
from sandpipe.parts import Pump
from sandpipe.parts import copied
from sandpipe.refusals import DOES_NOT_GO
from sandpipe.refusals import OUT_OF_RANGE
from sandpipe.refusals import TOO_MANY


def with_choice(pipe, choice):
    """A copy in which just those pumps run whose bits stand in the choice."""
    pumps = []
    bits = choice
    for pump in pipe.pumps:
        pumps.append(Pump(pump.at, pump.adds, bits % 2))
        bits = bits // 2
    other = copied(pipe)
    other.pumps = pumps
    return other


def choice_count(pipe):
    count = 1
    for pump in pipe.pumps:
        count = count * 2
    return count


def running_count(pipe):
    return sum([pump.runs for pump in pipe.pumps])


def fewest(pipe, speed):
    if not is_speed(speed):
        return [OUT_OF_RANGE]
    best = [DOES_NOT_GO]
    best_count = len(pipe.pumps) + 1
    # From the least choice up, so that of those with like counts the first one stays.
    for choice in range(choice_count(pipe)):
        tried = with_choice(pipe, choice)
        count = running_count(tried)
        if count < best_count and goes_at(tried, speed):
            best_count = count
            best = [count, choice]
    return best


def richest(pipe, speed):
    if not is_speed(speed):
        return [OUT_OF_RANGE]
    tried = copied(pipe)
    # Every mixture is tried: where a piece falls, it may go by a richer one and not by a poorer one.
    for mix in range(MOST_MIX, -1, -1):
        tried.mix = mix
        if goes_at(tried, speed):
            return [mix]
    return [DOES_NOT_GO]


def goes_with(pipe, speed, long, wide):
    """Whether it goes with a level piece more at the end."""
    tried = copied(pipe)
    tried.pieces.append(Piece(long, 0, wide))
    return goes_at(tried, speed)


def longest_that_goes(pipe, speed, wide):
    """The greatest length by which it goes, where it goes by the shortest."""
    good = SHORTEST
    bad = LONGEST + 1
    while bad - good > 1:
        middle = (good + bad) // 2
        if goes_with(pipe, speed, middle, wide):
            good = middle
        else:
            bad = middle
    return good


def farther(pipe, speed, wide):
    if not is_speed(speed) or not is_width(wide):
        return [OUT_OF_RANGE]
    if len(pipe.pieces) >= MOST_PIECES:
        return [TOO_MANY]
    # The length bears on the end's pressure alone, and longer no less is lost. So if it goes by any
    # length, it goes by the shortest, and by all up to the greatest.
    if not goes_with(pipe, speed, SHORTEST, wide):
        return [DOES_NOT_GO]
    return [longest_that_goes(pipe, speed, wide), SHORTEST]
