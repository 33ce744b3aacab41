"""What happens in a pipe at a speed. Nothing here refuses or changes anything."""

# What stands against going, in the order in which it is told.
NOTHING = 0
SETTLES = 1
TOO_LITTLE = 2
TOO_MUCH = 3
END_BELOW_0 = 4


def lost(pipe, piece, speed):
    resistance = piece.long * speed * speed * (100 + pipe.mix) * (10 + pipe.grain)
    divisor = 4000 * piece.wide
    # Alone among what is divided, a loss is rounded up.
    return (resistance + divisor - 1) // divisor


def lifted(pipe, piece):
    return piece.rise * (100 + 2 * pipe.mix) // 100


def given(pump, speed):
    if pump.runs == 0:
        return 0
    # Rounded down ahead of the taking off, so that what is left is rounded up.
    return pump.adds - pump.adds * speed * speed // 10000


def settling_speed(pipe, piece):
    return 5 + 2 * pipe.grain + piece.wide // 50 + pipe.mix // 10


def given_at_joint(pipe, joint, speed):
    return sum([given(pump, speed) for pump in pipe.pumps if pump.at == joint])


def joint_pressures(pipe, speed):
    """The pressure at every joint, the end's last."""
    found = []
    pressure = 0
    for joint, piece in enumerate(pipe.pieces):
        pressure = pressure + given_at_joint(pipe, joint, speed)
        found.append(pressure)
        pressure = pressure - lost(pipe, piece, speed) - lifted(pipe, piece)
    found.append(pressure)
    return found


def settling_pieces(pipe, speed):
    """The numbers of the pieces in which it settles."""
    return [number for number, piece in enumerate(pipe.pieces) if speed <= settling_speed(pipe, piece)]


def hindrance(pipe, speed):
    """The first reason why it does not go, then the first piece or joint; NOTHING and 0 where it goes."""
    settling = settling_pieces(pipe, speed)
    if len(settling) > 0:
        return [SETTLES, settling[0]]
    found = joint_pressures(pipe, speed)
    end = len(pipe.pieces)
    # The least and the most pressure bind every joint but the end, which has a bound of its own. Each
    # bound has a walk of its own: too little at a later joint is told ahead of too much at an earlier one.
    for joint in range(end):
        if found[joint] < pipe.low:
            return [TOO_LITTLE, joint]
    for joint in range(end):
        if found[joint] > pipe.high:
            return [TOO_MUCH, joint]
    if found[end] < 0:
        return [END_BELOW_0, end]
    return [NOTHING, 0]


def goes_at(pipe, speed):
    return hindrance(pipe, speed)[0] == NOTHING


def litres(pipe, speed):
    # The document's 2,000 at most never binds: no piece is wider than 1,200.
    narrowest = min([piece.wide for piece in pipe.pieces])
    return narrowest * narrowest * speed * 3 // 40000
