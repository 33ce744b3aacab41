"""What may be told, and how much of it there may be."""

LEAST_SPEED = 1
MOST_SPEED = 99
MOST_MIX = 40
SHORTEST = 1
LONGEST = 3000
MOST_PIECES = 8
MOST_PUMPS = 6


def is_speed(speed):
    return LEAST_SPEED <= speed <= MOST_SPEED


def is_grain(grain):
    return 1 <= grain <= 9


def is_mix(mix):
    return 0 <= mix <= MOST_MIX


def is_width(wide):
    return 100 <= wide <= 1200


def is_piece(long, rise, wide):
    return SHORTEST <= long <= LONGEST and -300 <= rise <= 300 and is_width(wide)
