"""Promise 3: goes, slowest."""

import unittest

from tests.helper import LARGEST, ask, last

PUMPED = (("begin", 1, 0, 0, 1000), ("piece", 1, 0, 100), ("pump", 0, 100))


def goes(calls, *speeds):
    return [answer[0] for answer in ask(*calls, *[("goes", speed) for speed in speeds])[len(calls):]]


class Goes(unittest.TestCase):
    def test_without_pieces_it_goes_at_all_speeds(self):
        self.assertEqual(goes((("begin", 9, 40, 0, 1),), *range(1, 100)), [1] * 99)

    def test_refusals(self):
        self.assertEqual(goes(PUMPED, 0, 1, 99, 100, LARGEST), [-22, 0, 0, -22, -22])
        self.assertEqual(goes(PUMPED[:1], 0, 1, 99, 100, LARGEST), [-22, 1, 1, -22, -22])

    def test_just_settles(self):
        self.assertEqual(last(*PUMPED, ("settles", 0)), [9])
        self.assertEqual(goes(PUMPED, 8, 9, 10), [0, 0, 1])

    def test_settles_in_any_piece(self):
        narrow = ("piece", 1, 0, 100)
        wide = ("piece", 1, 0, 200)
        for pieces in ((wide, narrow, narrow), (narrow, wide, narrow), (narrow, narrow, wide)):
            with self.subTest(pieces=pieces):
                calls = (PUMPED[0], *pieces, PUMPED[2])
                self.assertEqual(goes(calls, 10, 11, 12), [0, 0, 1])

    def test_an_end_that_is_just_at_0(self):
        # At 10 the pump gives 99 and the piece loses 1.
        self.assertEqual(last(*PUMPED, ("pressures", 10)), [2, 99, 98])
        for rise, answer in ((97, 1), (98, 1), (99, 0)):
            with self.subTest(rise=rise):
                calls = (PUMPED[0], ("piece", 1, rise, 100), PUMPED[2])
                self.assertEqual(goes(calls, 10), [answer])

    def test_an_end_below_0_does_not_go_though_the_least_pressure_is_lower(self):
        calls = (("begin", 1, 0, -100, 1000), ("piece", 1, 99, 100), ("pump", 0, 100))
        self.assertEqual(last(*calls, ("pressures", 10)), [2, 99, -1])
        self.assertEqual(goes(calls, 10), [0])

    def test_the_end_may_have_more_than_the_most(self):
        calls = (("begin", 1, 0, 0, 1), ("piece", 1, -300, 100))
        self.assertEqual(last(*calls, ("pressures", 10)), [2, 0, 299])
        self.assertEqual(goes(calls, 10), [1])

    def test_the_least_pressure_just_met(self):
        for low, answer in ((-6, 1), (-5, 1), (-4, 0), (0, 0)):
            with self.subTest(low=low):
                calls = (("begin", 1, 0, low, 1000), ("piece", 1, 4, 100), ("piece", 1, -300, 100))
                self.assertEqual(last(*calls, ("pressures", 10)), [3, 0, -5, 294])
                self.assertEqual(goes(calls, 10), [answer])

    def test_the_least_pressure_is_met_with_the_joints_own_pump(self):
        calls = (("begin", 1, 0, 0, 1000), ("piece", 1, 4, 100), ("piece", 1, -300, 100), ("pump", 1, 5))
        self.assertEqual(last(*calls, ("pressures", 10)), [3, 0, 0, 299])
        self.assertEqual(goes(calls, 10), [1])

    def test_the_most_pressure_just_met(self):
        for high, answer in ((100, 1), (99, 1), (98, 0)):
            with self.subTest(high=high):
                calls = (("begin", 1, 0, 0, high),) + PUMPED[1:]
                self.assertEqual(goes(calls, 10), [answer])

    def test_too_much_at_a_later_joint(self):
        for high, answer in ((99, 1), (98, 0)):
            with self.subTest(high=high):
                calls = (("begin", 1, 0, 0, high), ("piece", 1, -100, 100), ("piece", 1, 0, 100), ("piece", 1, 0, 100))
                self.assertEqual(last(*calls, ("pressures", 10)), [4, 0, 99, 98, 97])
                self.assertEqual(goes(calls, 10), [answer])

    def test_two_pumps_at_one_joint_are_too_much_together(self):
        for high, answer in ((198, 1), (197, 0)):
            with self.subTest(high=high):
                calls = (("begin", 1, 0, 0, high),) + PUMPED[1:] + (("pump", 0, 100),)
                self.assertEqual(goes(calls, 10), [answer])
                self.assertEqual(goes(calls + (("on", 1, 0),), 10), [1])

    def test_a_pump_at_a_speed_of_99(self):
        for rise, answer in ((17, 1), (18, 0)):
            with self.subTest(rise=rise):
                calls = (PUMPED[0], ("piece", 1, rise, 1200), ("pump", 0, 1000))
                self.assertEqual(goes(calls, 99), [answer])

    def test_without_pumps_a_flat_pipe_does_not_go(self):
        self.assertEqual(goes(PUMPED[:2], *range(1, 100)), [0] * 99)
        self.assertEqual(goes(PUMPED + (("on", 0, 0),), *range(1, 100)), [0] * 99)


class Slowest(unittest.TestCase):
    def test_without_pieces(self):
        self.assertEqual(last(("begin", 9, 40, 0, 1), ("slowest",)), [1])
        self.assertEqual(last(*PUMPED[:2], ("cut",), ("slowest",)), [1])

    def test_just_above_the_settling_speed(self):
        self.assertEqual(last(*PUMPED, ("slowest",)), [10])

    def test_speeds_between_at_which_it_does_not_go(self):
        calls = (("begin", 1, 0, 0, 500), ("piece", 1, 0, 100), ("pump", 0, 600))
        self.assertEqual(ask(*calls, ("settles", 0), ("slowest",))[3:], [[9], [41]])
        self.assertEqual(goes(calls, 9, 10, 25, 40, 41), [0, 0, 0, 0, 1])

    def test_the_greatest_speed_alone(self):
        calls = (("begin", 1, 0, 0, 39), ("piece", 1, 17, 1200), ("pump", 0, 1000))
        self.assertEqual(last(*calls, ("slowest",)), [99])
        self.assertEqual(goes(calls, 98, 99), [0, 1])

    def test_too_much_up_to_where_it_is_too_little(self):
        calls = (("begin", 1, 0, 0, 39), ("piece", 1, 18, 1200), ("pump", 0, 1000))
        self.assertEqual(last(*calls, ("slowest",)), [-33])

    def test_faster_than_99_is_no_speed(self):
        # The pump gives 20 at 99, and would give nothing at 100.
        calls = (("begin", 1, 0, 0, 19), ("piece", 1, -300, 1200), ("pump", 0, 1000))
        self.assertEqual(last(*calls, ("slowest",)), [-33])

    def test_at_no_speed(self):
        self.assertEqual(last(*PUMPED[:2], ("slowest",)), [-33])
        self.assertEqual(last(*PUMPED, ("on", 0, 0), ("slowest",)), [-33])
        self.assertEqual(last(*PUMPED, ("on", 0, 0), ("on", 0, 1), ("slowest",)), [10])


if __name__ == "__main__":
    unittest.main()
