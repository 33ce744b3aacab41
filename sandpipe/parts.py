"""What is kept of a pipe between two calls."""


class Piece:
    """A piece: metres long, decimetres that it rises, millimetres wide."""

    def __init__(self, long, rise, wide):
        self.long = long
        self.rise = rise
        self.wide = wide


class Pump:
    """A pump at the beginning of a piece; runs is 1 or 0, as the call on tells it."""

    def __init__(self, at, adds, runs):
        self.at = at
        self.adds = adds
        self.runs = runs


class Pipe:
    """The whole pipe and what is pumped through it; its numbers mean nothing before it is begun."""

    def __init__(self):
        self.begun = False
        self.grain = 0
        self.mix = 0
        self.low = 0
        self.high = 0
        self.pieces = []
        self.pumps = []


def copied(pipe):
    """A pipe like this one, with lists of its own; the pieces and pumps in them are the same."""
    other = Pipe()
    other.begun = pipe.begun
    other.grain = pipe.grain
    other.mix = pipe.mix
    other.low = pipe.low
    other.high = pipe.high
    other.pieces = list(pipe.pieces)
    other.pumps = list(pipe.pumps)
    return other
