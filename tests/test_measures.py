"""Promise 2: loses, settles, gives, pressures."""

import math
import random
import unittest
from fractions import Fraction

from tests.helper import LARGEST, WRONG_SPEEDS, ask, last

BEGIN = ("begin", 1, 0, -10, 500)
PIECE = ("piece", 100, 0, 100)


class Loses(unittest.TestCase):
    def test_lost(self):
        rows = [
            # grain, mix, long, wide, speed, lost
            (1, 0, 1000, 100, 20, 1100),      # comes out even
            (1, 0, 1001, 100, 20, 1102),      # 1101.1
            (1, 0, 999, 100, 20, 1099),       # 1098.9
            (3, 1, 17, 113, 9, 5),            # 1,808,001 divided by 452,000: by the least more than 4
            (1, 0, 1, 1200, 1, 1),            # far below 1
            (1, 0, 400, 110, 1, 1),           # just 1
            (1, 0, 401, 110, 1, 2),
            (1, 0, 400, 111, 1, 1),
            (9, 40, 3000, 100, 99, 195530),   # 195529.95
            (4, 25, 640, 320, 35, 1072),      # 1071.875
            (6, 15, 500, 400, 10, 58),        # 57.5
        ]
        for grain, mix, long, wide, speed, answer in rows:
            with self.subTest(long=long, wide=wide, speed=speed):
                calls = (("begin", grain, mix, 0, 1), ("piece", long, 0, wide), ("loses", 0, speed))
                self.assertEqual(last(*calls), [answer, 0])

    def test_lifted(self):
        rows = [
            # mix, rise, lifted
            (0, 0, 0), (0, 300, 300), (0, -300, -300), (40, 300, 540), (40, -300, -540),
            (1, 1, 1), (1, -1, -2), (10, 5, 6), (10, -5, -6), (25, 3, 4), (25, -3, -5),
            (40, 7, 12), (40, -7, -13), (1, 49, 49), (1, -49, -50), (1, 50, 51), (1, -50, -51),
        ]
        for mix, rise, answer in rows:
            with self.subTest(mix=mix, rise=rise):
                calls = (("begin", 1, mix, 0, 1), ("piece", 1, rise, 1200), ("loses", 0, 1))
                self.assertEqual(last(*calls), [1, answer])

    def test_lifted_is_alike_at_all_speeds(self):
        calls = (("begin", 1, 13, 0, 1), ("piece", 1, -21, 1200))
        self.assertEqual({last(*calls, ("loses", 0, speed))[1] for speed in range(1, 100)}, {-27})

    def test_refusals(self):
        self.assertEqual(last(BEGIN, ("loses", 0, 5)), [-2])
        self.assertEqual(last(BEGIN, PIECE, ("loses", 1, 5)), [-2])
        self.assertEqual(last(BEGIN, PIECE, ("loses", LARGEST, 5)), [-2])
        for speed in WRONG_SPEEDS:
            with self.subTest(speed=speed):
                self.assertEqual(last(BEGIN, PIECE, ("loses", 0, speed)), [-22])
                self.assertEqual(last(BEGIN, PIECE, ("loses", 1, speed)), [-2])

    def test_least_and_greatest_speed(self):
        self.assertEqual(last(BEGIN, PIECE, ("loses", 0, 1)), [1, 0])
        self.assertEqual(last(BEGIN, PIECE, ("loses", 0, 99)), [2696, 0])  # 2695.275


class Settles(unittest.TestCase):
    def test_speed(self):
        rows = [
            # grain, mix, wide, speed
            (1, 0, 100, 9), (9, 40, 1200, 51), (1, 0, 149, 9), (1, 0, 150, 10), (1, 9, 100, 9), (1, 10, 100, 10),
            (1, 19, 100, 10), (1, 39, 100, 12), (1, 40, 100, 13), (2, 0, 100, 11), (1, 9, 149, 9), (5, 27, 777, 32),
            (1, 0, 1199, 30),
        ]
        for grain, mix, wide, answer in rows:
            with self.subTest(grain=grain, mix=mix, wide=wide):
                calls = (("begin", grain, mix, 0, 1), ("piece", 1, 0, wide), ("settles", 0))
                self.assertEqual(last(*calls), [answer])

    def test_refusals(self):
        self.assertEqual(last(BEGIN, ("settles", 0)), [-2])
        self.assertEqual(last(BEGIN, PIECE, ("settles", 1)), [-2])
        self.assertEqual(last(BEGIN, PIECE, ("settles", LARGEST)), [-2])

    def test_the_last_of_eight(self):
        self.assertEqual(last(BEGIN, *[PIECE] * 7, ("piece", 1, 1, 600), ("settles", 7)), [19])


class Gives(unittest.TestCase):
    def test_given(self):
        rows = [
            # adds, speed, given
            (1000, 1, 1000), (1000, 3, 1000), (1000, 4, 999), (1000, 99, 20), (1, 99, 1), (2, 99, 1), (50, 99, 1),
            (51, 99, 2), (100, 99, 2), (7, 50, 6), (8, 50, 6), (400, 50, 300), (600, 40, 504), (600, 41, 500),
        ]
        for adds, speed, answer in rows:
            with self.subTest(adds=adds, speed=speed):
                self.assertEqual(last(BEGIN, PIECE, ("pump", 0, adds), ("gives", 0, speed)), [answer])

    def test_a_pump_that_is_off_gives_nothing(self):
        calls = (BEGIN, PIECE, ("pump", 0, 1000), ("on", 0, 0))
        self.assertEqual({tuple(last(*calls, ("gives", 0, speed))) for speed in range(1, 100)}, {(0,)})

    def test_each_pump_by_itself(self):
        calls = (BEGIN, PIECE, ("pump", 0, 100), ("pump", 0, 200), ("gives", 0, 10), ("gives", 1, 10))
        self.assertEqual(ask(*calls)[4:], [[99], [198]])

    def test_refusals(self):
        calls = (BEGIN, PIECE, PIECE, ("pump", 0, 100))
        self.assertEqual(last(BEGIN, PIECE, ("gives", 0, 5)), [-2])
        self.assertEqual(last(*calls, ("gives", 1, 5)), [-2])
        self.assertEqual(last(*calls, ("gives", LARGEST, 5)), [-2])
        for speed in WRONG_SPEEDS:
            with self.subTest(speed=speed):
                self.assertEqual(last(*calls, ("gives", 0, speed)), [-22])
                self.assertEqual(last(*calls, ("gives", 1, speed)), [-2])
                self.assertEqual(last(*calls, ("on", 0, 0), ("gives", 0, speed)), [-22])


def told_pressures(pipe, speed):
    """The pressures as the document's words tell them, reckoned by fractions."""
    grain, mix, pieces, pumps = pipe
    found = []
    pressure = 0
    for joint, (long, rise, wide) in enumerate(pieces):
        for at, adds, runs in pumps:
            if at == joint and runs:
                pressure += adds - math.floor(Fraction(adds * speed ** 2, 10000))
        found.append(pressure)
        pressure -= math.ceil(Fraction(long * speed ** 2 * (100 + mix) * (10 + grain), 4000 * wide))
        pressure -= math.floor(Fraction(rise * (100 + 2 * mix), 100))
    return found + [pressure]


def some_pipe(source):
    pieces = [(source.randint(1, 3000), source.randint(-300, 300), source.randint(100, 1200))
              for number in range(source.randint(1, 8))]
    pumps = [(source.randrange(len(pieces)), source.randint(1, 1000), source.randint(0, 1))
             for number in range(source.randint(0, 6))]
    return source.randint(1, 9), source.randint(0, 40), pieces, pumps


def calls_for(pipe):
    grain, mix, pieces, pumps = pipe
    calls = [("begin", grain, mix, -100, 3000)]
    calls.extend([("piece", long, rise, wide) for long, rise, wide in pieces])
    calls.extend([("pump", at, adds) for at, adds, runs in pumps])
    calls.extend([("on", number, 0) for number, pump in enumerate(pumps) if not pump[2]])
    return calls


class Pressures(unittest.TestCase):
    def test_without_pieces(self):
        self.assertEqual(ask(BEGIN, ("pressures", 1), ("pressures", 99))[1:], [[1, 0], [1, 0]])
        self.assertEqual(last(BEGIN, PIECE, ("cut",), ("pressures", 50)), [1, 0])

    def test_one_piece_without_pumps(self):
        self.assertEqual(last(BEGIN, ("piece", 1000, 5, 100), ("pressures", 20)), [2, 0, -1105])

    def test_two_pumps_at_one_joint(self):
        calls = (BEGIN, PIECE, PIECE, ("pump", 1, 7), ("pump", 0, 100), ("pump", 1, 7))
        # At 50 each pump of 7 gives 6 (rounded each by itself), that of 100 gives 75; a piece loses 687.5.
        self.assertEqual(last(*calls, ("pressures", 50)), [3, 75, 75 - 688 + 12, 75 - 688 + 12 - 688])

    def test_a_pump_that_is_off_adds_nothing(self):
        calls = (BEGIN, PIECE, ("pump", 0, 7), ("pump", 0, 100), ("on", 1, 0))
        self.assertEqual(last(*calls, ("pressures", 50)), [2, 6, 6 - 688])

    def test_a_piece_that_falls(self):
        calls = (("begin", 1, 1, 0, 9), ("piece", 1, -1, 1200), ("piece", 1, 1, 1200), ("pressures", 1))
        self.assertEqual(last(*calls), [3, 0, 1, -1])

    def test_a_pump_at_a_speed_of_99(self):
        calls = (BEGIN, ("piece", 1, 0, 1200), ("pump", 0, 1000), ("pressures", 99))
        self.assertEqual(last(*calls), [2, 20, 17])

    def test_eight_pieces_have_nine_joints(self):
        pieces = [("piece", 1, rise, 1200) for rise in range(8)]
        self.assertEqual(last(BEGIN, *pieces, ("pressures", 1)), [9, 0, -1, -3, -6, -10, -15, -21, -28, -36])

    def test_refusals(self):
        for speed in WRONG_SPEEDS:
            with self.subTest(speed=speed):
                self.assertEqual(last(BEGIN, ("pressures", speed)), [-22])
                self.assertEqual(last(BEGIN, PIECE, ("pressures", speed)), [-22])
        self.assertEqual(last(BEGIN, PIECE, ("pressures", 1)), [2, 0, -1])
        self.assertEqual(last(BEGIN, PIECE, ("pressures", 99)), [2, 0, -2696])

    def test_many_pipes(self):
        source = random.Random(20)
        for number in range(200):
            pipe = some_pipe(source)
            speed = source.randint(1, 99)
            with self.subTest(pipe=pipe, speed=speed):
                told = told_pressures(pipe, speed)
                self.assertEqual(last(*calls_for(pipe), ("pressures", speed)), [len(told)] + told)


if __name__ == "__main__":
    unittest.main()
