"""What holds, a to e, as far as the calls are built; e is in test_line."""

import random
import unittest

from tests.helper import ask, last


def some_calls(source):
    """A pipe that often goes at some speeds: short pieces, strong pumps."""
    calls = [("begin", source.randint(1, 9), source.randint(0, 40), source.randint(-100, 0), source.randint(200, 3000))]
    pieces = source.randint(0, 8)
    for number in range(pieces):
        calls.append(("piece", source.randint(1, 200), source.randint(-60, 60), source.randint(100, 1200)))
    if pieces:
        for number in range(source.randint(0, 6)):
            calls.append(("pump", source.choice((0, source.randrange(pieces))), source.randint(1, 1000)))
    return calls


def counted(calls, name):
    return len([call for call in calls if call[0] == name])


def each_speed(calls, name, *numbers):
    looks = [(name, *numbers, speed) for speed in range(1, 100)]
    return ask(*calls, *looks)[len(calls):]


class Holds(unittest.TestCase):
    def setUp(self):
        source = random.Random(8)
        self.pipes = [some_calls(source) for number in range(120)]

    def test_a_faster_it_loses_no_less(self):
        for calls in self.pipes:
            for piece in range(counted(calls, "piece")):
                lost = [answer[0] for answer in each_speed(calls, "loses", piece)]
                self.assertEqual(lost, sorted(lost), calls)

    def test_a_faster_a_pump_gives_no_more(self):
        for calls in self.pipes:
            for pump in range(counted(calls, "pump")):
                given = [answer[0] for answer in each_speed(calls, "gives", pump)]
                self.assertEqual(given, sorted(given, reverse=True), calls)
                self.assertGreater(given[-1], 0)

    def test_a_one_pressure_more_than_pieces(self):
        for calls in self.pipes:
            joints = counted(calls, "piece") + 1
            for answer in each_speed(calls, "pressures"):
                self.assertEqual((answer[0], len(answer)), (joints, joints + 1), calls)

    def test_b_it_goes_just_if_nothing_is_told_against_it(self):
        for calls in self.pipes:
            low, high = calls[0][3:]
            settling = [last(*calls, ("settles", piece))[0] for piece in range(counted(calls, "piece"))]
            told = [answer[1:] for answer in each_speed(calls, "pressures")]
            went = [answer[0] for answer in each_speed(calls, "goes")]
            for speed in range(1, 100):
                joints = told[speed - 1]
                free = all(speed > other for other in settling)
                held = all(low <= joint <= high for joint in joints[:-1])
                self.assertEqual(went[speed - 1], int(free and held and joints[-1] >= 0), (calls, speed))

    def test_b_slower_than_the_slowest_it_does_not_go(self):
        answered = []
        for calls in self.pipes:
            went = [answer[0] for answer in each_speed(calls, "goes")]
            slowest = went.index(1) + 1 if 1 in went else -33
            self.assertEqual(last(*calls, ("slowest",)), [slowest], calls)
            answered.append(slowest)
        # The pipes are of both sorts.
        self.assertGreater(answered.count(-33), 10)
        self.assertGreater(len(set(answered)), 10)

    def test_c_a_pump_that_is_off_gives_nothing(self):
        for calls in self.pipes:
            for pump in range(counted(calls, "pump")):
                off = calls + [("on", pump, 0)]
                self.assertEqual(set(map(tuple, each_speed(off, "gives", pump))), {(0,)})
                number = [number for number, call in enumerate(calls) if call[0] == "pump"][pump]
                without = calls[:number] + calls[number + 1:]
                self.assertEqual(last(*off, ("pressures", 40)), last(*without, ("pressures", 40)), calls)

    def test_d_coarser_or_wider_it_settles_at_no_lesser_speed(self):
        for mix in (0, 9, 10, 40):
            by_grain = [last(("begin", grain, mix, 0, 1), ("piece", 9, 9, 300), ("settles", 0)) for grain in range(1, 10)]
            self.assertEqual(by_grain, sorted(by_grain))
            by_width = [last(("begin", 3, mix, 0, 1), ("piece", 9, 9, wide), ("settles", 0)) for wide in range(100, 1201)]
            self.assertEqual(by_width, sorted(by_width))

    def test_d_more_in_the_mixture_no_less_is_lost(self):
        for long, wide, speed in ((1, 1200, 1), (700, 350, 20), (3000, 100, 99)):
            lost = [last(("begin", 3, mix, 0, 1), ("piece", long, 9, wide), ("loses", 0, speed))[0] for mix in range(41)]
            self.assertEqual(lost, sorted(lost))


if __name__ == "__main__":
    unittest.main()
