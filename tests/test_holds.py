"""What holds, a to d, over many pipes; e is in test_line."""

import random
import unittest

from tests.helper import ask, last


def some_calls(source):
    """A pipe that often goes at some speeds: short pieces, strong pumps."""
    calls = [("begin", source.randint(1, 9), source.randint(0, 40), source.randint(-100, 0), source.randint(200, 3000))]
    pieces = source.randint(0, 8)
    for number in range(pieces):
        calls.append(("piece", source.randint(1, 200), source.randint(-60, 60), source.randint(100, 1200)))
    if pieces:
        for number in range(source.randint(0, 6)):
            calls.append(("pump", source.choice((0, source.randrange(pieces))), source.randint(1, 1000)))
    return calls


def counted(calls, name):
    return len([call for call in calls if call[0] == name])


def each_speed(calls, name, *numbers):
    looks = [(name, *numbers, speed) for speed in range(1, 100)]
    return ask(*calls, *looks)[len(calls):]


class Holds(unittest.TestCase):
    def setUp(self):
        source = random.Random(8)
        self.pipes = [some_calls(source) for number in range(120)]
        self.speeds = (14, 27, 45)

    def test_a_faster_it_loses_no_less(self):
        for calls in self.pipes:
            for piece in range(counted(calls, "piece")):
                lost = [answer[0] for answer in each_speed(calls, "loses", piece)]
                self.assertEqual(lost, sorted(lost), calls)

    def test_a_faster_a_pump_gives_no_more(self):
        for calls in self.pipes:
            for pump in range(counted(calls, "pump")):
                given = [answer[0] for answer in each_speed(calls, "gives", pump)]
                self.assertEqual(given, sorted(given, reverse=True), calls)
                self.assertGreater(given[-1], 0)

    def test_a_one_pressure_more_than_pieces(self):
        for calls in self.pipes:
            joints = counted(calls, "piece") + 1
            for answer in each_speed(calls, "pressures"):
                self.assertEqual((answer[0], len(answer)), (joints, joints + 1), calls)

    def test_b_it_goes_just_if_nothing_is_told_against_it(self):
        for calls in self.pipes:
            low, high = calls[0][3:]
            settling = [last(*calls, ("settles", piece))[0] for piece in range(counted(calls, "piece"))]
            told = [answer[1:] for answer in each_speed(calls, "pressures")]
            went = [answer[0] for answer in each_speed(calls, "goes")]
            for speed in range(1, 100):
                joints = told[speed - 1]
                free = all(speed > other for other in settling)
                held = all(low <= joint <= high for joint in joints[:-1])
                self.assertEqual(went[speed - 1], int(free and held and joints[-1] >= 0), (calls, speed))

    def test_b_slower_than_the_slowest_it_does_not_go(self):
        answered = []
        for calls in self.pipes:
            went = [answer[0] for answer in each_speed(calls, "goes")]
            slowest = went.index(1) + 1 if 1 in went else -33
            self.assertEqual(last(*calls, ("slowest",)), [slowest], calls)
            answered.append(slowest)
        # The pipes are of both sorts.
        self.assertGreater(answered.count(-33), 10)
        self.assertGreater(len(set(answered)), 10)

    def test_b_faster_than_the_fastest_it_does_not_go(self):
        answered = []
        for calls in self.pipes:
            went = [answer[0] for answer in each_speed(calls, "goes")]
            fastest = 99 - went[::-1].index(1) if 1 in went else -33
            self.assertEqual(last(*calls, ("fastest",)), [fastest], calls)
            answered.append(fastest)
        self.assertGreater(len(set(answered)), 10)

    def test_b_why_tells_just_what_stands_against_it(self):
        reasons = set()
        for calls in self.pipes:
            low, high = calls[0][3:]
            told = [answer[1:] for answer in each_speed(calls, "pressures")]
            settling = [answer[1:] for answer in each_speed(calls, "blocks")]
            went = [answer[0] for answer in each_speed(calls, "goes")]
            for speed, answer in enumerate(each_speed(calls, "why"), start=1):
                joints = told[speed - 1]
                against = [[1, piece] for piece in settling[speed - 1]]
                against.extend([2, joint] for joint, pressure in enumerate(joints[:-1]) if pressure < low)
                against.extend([3, joint] for joint, pressure in enumerate(joints[:-1]) if pressure > high)
                against.extend([4, len(joints) - 1] for pressure in joints[-1:] if pressure < 0)
                self.assertEqual(answer, (against + [[0, 0]])[0], (calls, speed))
                self.assertEqual(went[speed - 1], int(against == []), (calls, speed))
                reasons.add(answer[0])
        self.assertEqual(reasons, {0, 1, 2, 3, 4})

    def test_b_it_settles_where_it_is_told(self):
        for calls in self.pipes:
            settling = [last(*calls, ("settles", piece))[0] for piece in range(counted(calls, "piece"))]
            for speed, answer in enumerate(each_speed(calls, "blocks"), start=1):
                blocked = [piece for piece, other in enumerate(settling) if speed <= other]
                self.assertEqual(answer, [len(blocked)] + blocked, (calls, speed))

    def test_b_it_has_to_spare_just_where_it_goes(self):
        for calls in self.pipes:
            told = each_speed(calls, "pressures")
            went = each_speed(calls, "goes")
            for number, answer in enumerate(each_speed(calls, "spare")):
                self.assertEqual(answer, [0, told[number][-1]] if went[number] == [1] else [-33], (calls, number))

    def test_least_and_most_are_the_first_among_the_pressures(self):
        for calls in self.pipes:
            told = [answer[1:] for answer in each_speed(calls, "pressures")]
            for name, pick in (("least", min), ("most", max)):
                for joints, answer in zip(told, each_speed(calls, name)):
                    self.assertEqual(answer, [joints.index(pick(joints)), pick(joints)], calls)

    def test_c_by_fewer_pumps_it_does_not_go(self):
        answered = set()
        for calls in self.pipes:
            pumps = counted(calls, "pump")
            went = {}
            for choice in range(2 ** pumps):
                off = [("on", pump, 0) for pump in range(pumps) if not choice >> pump & 1]
                for speed in self.speeds:
                    went[choice, speed] = last(*calls, *off, ("goes", speed)) == [1]
            for speed in self.speeds:
                good = [[bin(choice).count("1"), choice] for choice in range(2 ** pumps) if went[choice, speed]]
                answer = last(*calls, ("fewest", speed))
                self.assertEqual(answer, min(good, default=[-33]), (calls, speed))
                answered.add(answer[0])
        self.assertGreater(len(answered), 4)

    def test_by_a_richer_mixture_it_does_not_go(self):
        answered = set()
        for calls in self.pipes:
            for speed in self.speeds:
                tried = [call for mix in range(41) for call in (("mix", mix), ("goes", speed))]
                went = ask(*calls, *tried)[len(calls) + 1::2]
                good = [mix for mix in range(41) if went[mix] == [1]]
                self.assertEqual(last(*calls, ("richest", speed)), [max(good, default=-33)], (calls, speed))
                answered.update(good[-1:])
        self.assertGreater(len(answered), 5)

    def test_farther_it_does_not_go(self):
        answered = set()
        for calls in self.pipes:
            pieces = counted(calls, "piece")
            for speed, wide in zip(self.speeds, (100, 300, 700)):
                answer = last(*calls, ("farther", speed, wide))
                lengths = (1, 2, 3, 10, 100, 1000, 2999, 3000, max(answer[0], 1), min(max(answer[0], 0) + 1, 3000))
                went = {long: last(*calls, ("piece", long, 0, wide), ("goes", speed)) for long in lengths}
                if pieces == 8:
                    self.assertEqual(answer, [-28])
                elif answer == [-33]:
                    self.assertEqual(set(map(tuple, went.values())), {(0,)}, (calls, speed))
                else:
                    self.assertEqual(answer[1], 1)
                    for long in lengths:
                        self.assertEqual(went[long], [int(long <= answer[0])], (calls, speed, long))
                answered.add(answer[0])
        self.assertGreater(len(answered), 20)

    def test_farther_length_by_length(self):
        calls = (("begin", 2, 17, -30, 900), ("piece", 70, 25, 300), ("piece", 40, -90, 200), ("pump", 0, 333))
        went = []
        for first in range(1, 3001, 50):
            tried = [call for long in range(first, first + 50) for call in (("piece", long, 0, 250), ("goes", 25), ("cut",))]
            went.extend(ask(*calls, *tried)[len(calls) + 1::3])
        good = [long for long, answer in enumerate(went, start=1) if answer == [1]]
        self.assertEqual(last(*calls, ("farther", 25, 250)), [good[-1], good[0]])
        self.assertEqual(len(went), 3000)

    def test_c_a_pump_that_is_off_gives_nothing(self):
        for calls in self.pipes:
            for pump in range(counted(calls, "pump")):
                off = calls + [("on", pump, 0)]
                self.assertEqual(set(map(tuple, each_speed(off, "gives", pump))), {(0,)})
                number = [number for number, call in enumerate(calls) if call[0] == "pump"][pump]
                without = calls[:number] + calls[number + 1:]
                self.assertEqual(last(*off, ("pressures", 40)), last(*without, ("pressures", 40)), calls)

    def test_d_coarser_or_wider_it_settles_at_no_lesser_speed(self):
        for mix in (0, 9, 10, 40):
            by_grain = [last(("begin", grain, mix, 0, 1), ("piece", 9, 9, 300), ("settles", 0)) for grain in range(1, 10)]
            self.assertEqual(by_grain, sorted(by_grain))
            by_width = [last(("begin", 3, mix, 0, 1), ("piece", 9, 9, wide), ("settles", 0)) for wide in range(100, 1201)]
            self.assertEqual(by_width, sorted(by_width))

    def test_d_more_in_the_mixture_no_less_is_lost(self):
        for long, wide, speed in ((1, 1200, 1), (700, 350, 20), (3000, 100, 99)):
            lost = [last(("begin", 3, mix, 0, 1), ("piece", long, 9, wide), ("loses", 0, speed))[0] for mix in range(41)]
            self.assertEqual(lost, sorted(lost))


if __name__ == "__main__":
    unittest.main()
