"""Promise 4: fewest, richest, farther."""

import unittest

from tests.helper import LARGEST, WRONG_SPEEDS, ask, last

BEGIN = ("begin", 1, 0, 0, 1000)
# It settles at 9. At a speed of 10 the piece loses 1, and a pump below 100 gives all it adds.
PIECE = ("piece", 1, 0, 100)


def piece(rise):
    return ("piece", 1, rise, 100)


def pumps(*adds):
    return tuple(("pump", 0, number) for number in adds)


def answered(calls, name, *speeds):
    return ask(*calls, *[(name, speed) for speed in speeds])[len(calls):]


class Fewest(unittest.TestCase):
    def test_none_must_run(self):
        falling = (BEGIN, piece(-1))
        self.assertEqual(last(*falling, ("fewest", 10)), [0, 0])
        self.assertEqual(last(*falling, *pumps(10, 20), ("fewest", 10)), [0, 0])

    def test_without_pieces(self):
        self.assertEqual(answered((("begin", 9, 40, 0, 1),), "fewest", 1, 50, 99), [[0, 0]] * 3)

    def test_all_of_them(self):
        self.assertEqual(last(BEGIN, piece(29), *pumps(10, 10, 10), ("fewest", 10)), [3, 7])
        self.assertEqual(last(BEGIN, piece(59), *pumps(10, 10, 10, 10, 10, 10), ("fewest", 10)), [6, 63])

    def test_one_alone(self):
        for number in range(6):
            adds = [10] * 6
            adds[number] = 70
            with self.subTest(number=number):
                self.assertEqual(last(BEGIN, piece(69), *pumps(*adds), ("fewest", 10)), [1, 2 ** number])

    def test_by_no_pumps(self):
        self.assertEqual(last(BEGIN, PIECE, ("fewest", 10)), [-33])
        self.assertEqual(last(BEGIN, piece(30), *pumps(10, 10, 10), ("fewest", 10)), [-33])
        self.assertEqual(last(BEGIN, piece(60), *pumps(10, 10, 10, 10, 10, 10), ("fewest", 10)), [-33])

    def test_of_like_ones_the_least(self):
        self.assertEqual(last(BEGIN, piece(19), *pumps(10, 20, 20, 30), ("fewest", 10)), [1, 2])
        self.assertEqual(last(BEGIN, piece(9), *pumps(10, 20, 20, 30), ("fewest", 10)), [1, 1])
        # By pumps 1 and 2, or 0 and 3, or 1 and 3, or 2 and 3.
        self.assertEqual(last(BEGIN, piece(34), *pumps(10, 20, 20, 30), ("fewest", 10)), [2, 6])
        self.assertEqual(last(BEGIN, piece(49), *pumps(10, 20, 20, 30), ("fewest", 10)), [2, 10])

    def test_fewer_go_ahead_of_a_lesser_number(self):
        self.assertEqual(last(BEGIN, piece(19), *pumps(10, 10, 20), ("fewest", 10)), [1, 4])
        self.assertEqual(last(BEGIN, piece(49), *pumps(20, 20, 20, 20, 20, 40), ("fewest", 10)), [2, 33])

    def test_pumps_that_are_off_are_counted_in(self):
        calls = (BEGIN, piece(29), *pumps(10, 10, 10))
        off = tuple(("on", number, 0) for number in range(3))
        self.assertEqual(last(*calls, *off, ("goes", 10)), [0])
        self.assertEqual(last(*calls, *off, ("fewest", 10)), [3, 7])
        self.assertEqual(last(BEGIN, piece(19), *pumps(20, 20), ("on", 0, 0), ("fewest", 10)), [1, 1])

    def test_pumps_that_run_are_left_out(self):
        calls = (("begin", 1, 0, 0, 25), piece(19), *pumps(30, 10, 20))
        self.assertEqual(ask(*calls, ("goes", 10), ("fewest", 10))[5:], [[0], [1, 4]])
        self.assertEqual(last(("begin", 1, 0, 0, 19), *calls[1:], ("fewest", 10)), [-33])

    def test_pumps_at_several_joints(self):
        # Joint 1 needs a pump at joint 0 that gives 20, the end needs 41 together.
        calls = (piece(19), piece(0), piece(19), ("pump", 2, 30), ("pump", 2, 50), ("pump", 0, 20), ("pump", 0, 30))
        self.assertEqual(last(BEGIN, *calls, ("fewest", 10)), [2, 5])
        self.assertEqual(last(BEGIN, *calls, ("pump", 0, 41), ("fewest", 10)), [1, 16])
        self.assertEqual(last(("begin", 1, 0, 0, 40), *calls, ("pump", 0, 41), ("fewest", 10)), [2, 5])
        # A joint's own pumps count for its pressure.
        self.assertEqual(last(BEGIN, piece(19), piece(19), ("pump", 0, 30), ("pump", 1, 40), ("fewest", 10)), [1, 2])

    def test_the_least_pressure_just_met(self):
        calls = (piece(19), piece(-300), *pumps(15, 16, 17))
        for low, answer in ((-20, [0, 0]), (-5, [1, 1]), (-4, [1, 2]), (-3, [1, 4]), (-2, [2, 3])):
            with self.subTest(low=low):
                self.assertEqual(last(("begin", 1, 0, low, 1000), *calls, ("fewest", 10)), answer)

    def test_just_settles(self):
        calls = (BEGIN, PIECE, *pumps(10))
        self.assertEqual(answered(calls, "fewest", 9, 10), [[-33], [1, 1]])

    def test_a_pump_at_a_speed_of_99(self):
        # A pump of 1,000 gives 20, one of 50 gives 1; the piece loses 3.
        calls = (BEGIN, ("piece", 1, 18, 1200), ("pump", 0, 50), ("pump", 0, 1000))
        self.assertEqual(answered(calls, "fewest", 99), [[2, 3]])
        self.assertEqual(answered((BEGIN, ("piece", 1, 17, 1200)) + calls[2:], "fewest", 99), [[1, 2]])

    def test_refusals(self):
        for calls in ((BEGIN,), (BEGIN, PIECE), (BEGIN, PIECE, *pumps(10))):
            with self.subTest(calls=calls):
                self.assertEqual(answered(calls, "fewest", *WRONG_SPEEDS), [[-22]] * 4)
        # Out of range is told ahead of its not going.
        self.assertEqual(answered((BEGIN, PIECE), "fewest", 0, 1, 99, 100), [[-22], [-33], [-33], [-22]])


class Richest(unittest.TestCase):
    def test_without_pieces(self):
        self.assertEqual(answered((BEGIN,), "richest", 1, 50, 99), [[40]] * 3)

    def test_just_settles(self):
        # It settles at 9, and at one more for each 10 in the mixture.
        calls = (BEGIN, PIECE, *pumps(99))
        self.assertEqual(answered(calls, "richest", 9, 10, 11, 12, 13, 14), [[-33], [9], [19], [29], [39], [40]])

    def test_the_mixture_that_stands_is_not_the_greatest(self):
        for mix, went in ((0, 1), (3, 1), (9, 1), (10, 0), (40, 0)):
            with self.subTest(mix=mix):
                calls = (("begin", 1, mix, 0, 1000), PIECE, *pumps(99))
                self.assertEqual(ask(*calls, ("goes", 10), ("richest", 10))[3:], [[went], [9]])

    def test_an_end_that_is_just_at_0(self):
        # At a speed of 20 the piece loses 2 by all mixtures, and rising by 50 lifts 50 and the mixture.
        for adds, answer in ((52, -33), (53, -33), (54, 0), (55, 1), (60, 6), (93, 38), (94, 39), (95, 40), (96, 40)):
            with self.subTest(adds=adds):
                calls = (BEGIN, piece(50), *pumps(adds))
                self.assertEqual(last(*calls, ("richest", 20)), [answer])

    def test_richer_it_goes_and_poorer_it_does_not(self):
        # Falling by 50 gives 50 and the mixture; what is lost grows by half the mixture.
        calls = (BEGIN, ("piece", 188, -50, 100))
        self.assertEqual(ask(*calls, ("goes", 10), ("mix", 4), ("goes", 10), ("mix", 3), ("goes", 10))[2:],
                         [[0], [0], [1], [4], [0]])
        self.assertEqual(answered(calls, "richest", 10), [[9]])

    def test_the_most_pressure_just_met(self):
        # Falling by 100 gives 100 and twice the mixture, to a joint that may have just so much.
        for high, answer in ((98, -33), (99, 0), (100, 0), (101, 1), (178, 39), (179, 40)):
            with self.subTest(high=high):
                calls = (("begin", 1, 20, 0, high), piece(-100), piece(0))
                self.assertEqual(last(*calls, ("richest", 14)), [answer])

    def test_the_least_pressure_just_met(self):
        for low, answer in ((-100, 40), (-91, 40), (-90, 39), (-52, 1), (-51, 0), (-50, -33)):
            with self.subTest(low=low):
                calls = (("begin", 1, 20, low, 1000), piece(50), piece(-300))
                self.assertEqual(last(*calls, ("richest", 14)), [answer])

    def test_a_piece_that_falls_divided(self):
        # Falling by 1 gives 1 by no sand at all, and 2 by any mixture up to 40.
        calls = (("begin", 1, 0, 0, 1), ("piece", 4, -1, 100))
        self.assertEqual(answered(calls, "richest", 14), [[-33]])
        self.assertEqual(answered((("begin", 1, 0, 0, 1), ("piece", 3, -1, 100)), "richest", 14), [[23]])
        calls = (("begin", 1, 0, 0, 1), piece(-1), piece(0))
        self.assertEqual(answered(calls, "richest", 14), [[40]])
        self.assertEqual(answered(calls, "goes", 14), [[0]])

    def test_the_pumps_that_run(self):
        calls = (BEGIN, piece(50), *pumps(60, 60), ("on", 1, 0))
        self.assertEqual(last(*calls, ("richest", 20)), [6])
        self.assertEqual(last(*calls, ("on", 0, 0), ("richest", 20)), [-33])

    def test_by_none(self):
        self.assertEqual(answered((BEGIN, PIECE), "richest", 1, 10, 99), [[-33]] * 3)

    def test_a_pump_at_a_speed_of_99(self):
        # The piece loses 3 up to a mixture of 33, then 4; it rises by 16, and a third of the mixture.
        calls = (BEGIN, ("piece", 1, 16, 1200), ("pump", 0, 1000))
        self.assertEqual(answered(calls, "richest", 99), [[6]])

    def test_refusals(self):
        for calls in ((BEGIN,), (BEGIN, PIECE), (BEGIN, PIECE, *pumps(10))):
            with self.subTest(calls=calls):
                self.assertEqual(answered(calls, "richest", *WRONG_SPEEDS), [[-22]] * 4)


class Farther(unittest.TestCase):
    PUMPED = (BEGIN, PIECE, ("pump", 0, 100))

    def test_the_greatest_and_the_least_length(self):
        # The end is at 98; 356 metres lose 97.9, and 357 lose 98.175.
        self.assertEqual(last(*self.PUMPED, ("farther", 10, 100)), [356, 1])
        self.assertEqual(ask(*self.PUMPED, ("piece", 356, 0, 100), ("goes", 10))[-1], [1])
        self.assertEqual(ask(*self.PUMPED, ("piece", 357, 0, 100), ("goes", 10))[-1], [0])

    def test_by_its_own_width(self):
        self.assertEqual(last(*self.PUMPED, ("farther", 10, 120)), [427, 1])  # 427 lose 97.85
        self.assertEqual(last(*self.PUMPED, ("farther", 10, 149)), [530, 1])  # 530 lose 97.82

    def test_a_loss_that_comes_out_even(self):
        # 1,000 metres lose 1,100 at a speed of 20; the pumps give 576 each, the first piece loses 2.
        for rise, greatest in ((49, 1000), (50, 1000), (51, 999)):
            with self.subTest(rise=rise):
                calls = (("begin", 1, 0, 0, 3000), piece(rise), ("pump", 0, 600), ("pump", 0, 600))
                self.assertEqual(last(*calls, ("pressures", 20)), [2, 1152, 1150 - rise])
                self.assertEqual(last(*calls, ("farther", 20, 100)), [greatest, 1])

    def test_up_to_3000(self):
        # At a speed of 32 a width of 1,200 loses 704 over 3,000 metres, just so; the pump gives 898, the piece 1.
        for rise, greatest in ((0, 3000), (192, 3000), (193, 3000), (194, 2995)):
            with self.subTest(rise=rise):
                calls = (BEGIN, ("piece", 1, rise, 1200), ("pump", 0, 1000))
                self.assertEqual(last(*calls, ("pressures", 32)), [2, 898, 897 - rise])
                self.assertEqual(last(*calls, ("farther", 32, 1200)), [greatest, 1])

    def test_one_length_alone_and_none(self):
        # At a speed of 30 a metre loses 3, two lose 5.
        for rise, answer in ((2, [2, 1]), (3, [1, 1]), (4, [1, 1]), (5, [-33]), (7, [-33]), (8, [-33])):
            with self.subTest(rise=rise):
                calls = (BEGIN, piece(rise), ("pump", 0, 10))
                self.assertEqual(last(*calls, ("pressures", 30)), [2, 10, 7 - rise])
                self.assertEqual(last(*calls, ("farther", 30, 100)), answer)

    def test_without_pieces(self):
        for speed in (1, 9, 10, 99):
            with self.subTest(speed=speed):
                self.assertEqual(last(BEGIN, ("farther", speed, 100)), [-33])

    def test_settles_in_the_new_piece(self):
        self.assertEqual(last(*self.PUMPED, ("farther", 10, 150)), [-33])
        self.assertEqual(last(*self.PUMPED, ("farther", 10, 1200)), [-33])
        self.assertEqual(last(*self.PUMPED, ("farther", 9, 100)), [-33])

    def test_what_stood_at_the_end_is_a_joint_then(self):
        for high, answer in ((299, [1087, 1]), (298, [-33])):
            with self.subTest(high=high):
                calls = (("begin", 1, 0, 0, high), piece(-300))
                self.assertEqual(ask(*calls, ("pressures", 10), ("goes", 10))[2:], [[2, 0, 299], [1]])
                self.assertEqual(last(*calls, ("farther", 10, 100)), answer)

    def test_a_joint_ahead_of_it(self):
        for low, answer in ((-5, [1069, 1]), (-4, [-33])):
            with self.subTest(low=low):
                calls = (("begin", 1, 0, low, 1000), piece(4), piece(-300))
                self.assertEqual(last(*calls, ("farther", 10, 100)), answer)

    def test_eight_pieces(self):
        calls = (("begin", 1, 0, -100, 1000),) + (piece(-2),) * 7
        self.assertEqual(last(*calls, ("farther", 10, 100)), [25, 1])
        self.assertEqual(last(*calls, piece(-2), ("farther", 10, 100)), [-28])
        self.assertEqual(last(*calls, piece(-2), ("cut",), ("farther", 10, 100)), [25, 1])

    def test_the_mixture_and_the_grain_that_stand(self):
        calls = (("begin", 2, 40, 0, 1000), PIECE, ("pump", 0, 100))
        # At a speed of 20 a metre loses 1.68; the pump gives 96, the first piece loses 2.
        self.assertEqual(last(*calls, ("farther", 20, 100)), [55, 1])

    def test_a_pump_at_a_speed_of_99(self):
        # The pump gives 20, a metre by a width of 1,200 loses 2.25.
        calls = (BEGIN, ("piece", 1, 0, 1200), ("pump", 0, 1000))
        self.assertEqual(last(*calls, ("farther", 99, 1200)), [7, 1])

    def test_ranges(self):
        rows = [(0, -22), (99, -22), (100, 356), (1200, -33), (1201, -22), (LARGEST, -22)]
        for wide, answer in rows:
            with self.subTest(wide=wide):
                self.assertEqual(last(*self.PUMPED, ("farther", 10, wide))[0], answer)
        for speed in WRONG_SPEEDS:
            with self.subTest(speed=speed):
                self.assertEqual(last(*self.PUMPED, ("farther", speed, 100)), [-22])
                self.assertEqual(last(*self.PUMPED, ("farther", speed, 99)), [-22])
                self.assertEqual(last(BEGIN, ("farther", speed, 100)), [-22])
        self.assertEqual(last(*self.PUMPED, ("farther", 1, 100)), [-33])
        self.assertEqual(last(*self.PUMPED, ("farther", 99, 100)), [-33])

    def test_the_greatest_width(self):
        # The end is at 839; 2,288 metres lose 838.93.
        calls = (BEGIN, ("piece", 1, 0, 1200), ("pump", 0, 1000))
        self.assertEqual(ask(*calls, ("farther", 40, 1200), ("farther", 40, 1201))[3:], [[2288, 1], [-22]])

    def test_which_refusal_comes_first(self):
        eight = (BEGIN,) + (PIECE,) * 8
        self.assertEqual(last(*eight, ("goes", 10)), [0])
        self.assertEqual(last(*eight, ("farther", 10, 100)), [-28])
        for speed, wide in ((0, 100), (100, 100), (10, 99), (10, 1201)):
            with self.subTest(speed=speed, wide=wide):
                self.assertEqual(last(*eight, ("farther", speed, wide)), [-22])
                self.assertEqual(last(BEGIN, PIECE, ("farther", speed, wide)), [-22])


if __name__ == "__main__":
    unittest.main()
