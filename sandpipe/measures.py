"""What happens in a pipe at a speed. Nothing here refuses or changes anything."""


def lost(pipe, piece, speed):
    resistance = piece.long * speed * speed * (100 + pipe.mix) * (10 + pipe.grain)
    divisor = 4000 * piece.wide
    # Alone among what is divided, a loss is rounded up.
    return (resistance + divisor - 1) // divisor


def lifted(pipe, piece):
    return piece.rise * (100 + 2 * pipe.mix) // 100


def given(pump, speed):
    if pump.runs == 0:
        return 0
    # Rounded down ahead of the taking off, so that what is left is rounded up.
    return pump.adds - pump.adds * speed * speed // 10000


def settling_speed(pipe, piece):
    return 5 + 2 * pipe.grain + piece.wide // 50 + pipe.mix // 10


def given_at_joint(pipe, joint, speed):
    return sum([given(pump, speed) for pump in pipe.pumps if pump.at == joint])


def joint_pressures(pipe, speed):
    """The pressure at every joint, the end's last."""
    found = []
    pressure = 0
    for joint, piece in enumerate(pipe.pieces):
        pressure = pressure + given_at_joint(pipe, joint, speed)
        found.append(pressure)
        pressure = pressure - lost(pipe, piece, speed) - lifted(pipe, piece)
    found.append(pressure)
    return found


def settles_somewhere(pipe, speed):
    for piece in pipe.pieces:
        if speed <= settling_speed(pipe, piece):
            return True
    return False


def goes_at(pipe, speed):
    if settles_somewhere(pipe, speed):
        return False
    found = joint_pressures(pipe, speed)
    end = len(pipe.pieces)
    # The least and the most pressure bind every joint but the end, which has a bound of its own.
    for pressure in found[:end]:
        if pressure < pipe.low or pressure > pipe.high:
            return False
    return found[end] >= 0
