"""Promise 3: fastest, why, blocks, spare."""

import unittest

from tests.helper import WRONG_SPEEDS, ask, last

BEGIN = ("begin", 1, 0, 0, 1000)
# It settles at 9. At a speed of 10 the piece loses 1 and the pump gives 99.
PIECE = ("piece", 1, 0, 100)
PUMPED = (BEGIN, PIECE, ("pump", 0, 100))


def piece(rise):
    return ("piece", 1, rise, 100)


def answered(calls, name, *speeds):
    return ask(*calls, *[(name, speed) for speed in speeds])[len(calls):]


class Fastest(unittest.TestCase):
    def test_without_pieces(self):
        self.assertEqual(last(("begin", 9, 40, 0, 1), ("fastest",)), [99])
        self.assertEqual(last(BEGIN, PIECE, ("cut",), ("fastest",)), [99])

    def test_up_to_where_the_end_is_below_0(self):
        self.assertEqual(last(*PUMPED, ("fastest",)), [88])
        self.assertEqual([answer[-1] for answer in answered(PUMPED, "pressures", 87, 88, 89)], [4, 1, -1])

    def test_an_end_that_is_just_at_0(self):
        calls = (BEGIN, piece(1), ("pump", 0, 100))
        self.assertEqual(last(*calls, ("pressures", 88)), [2, 23, 0])
        self.assertEqual(last(*calls, ("fastest",)), [88])
        self.assertEqual(last(BEGIN, piece(2), ("pump", 0, 100), ("fastest",)), [87])

    def test_up_to_where_a_joint_has_too_little(self):
        # The first piece loses 5 up to a speed of 42, and 6 from 43 on.
        calls = (("begin", 1, 0, -5, 1000), PIECE, piece(-300))
        self.assertEqual(answered(calls, "pressures", 42, 43), [[3, 0, -5, 290], [3, 0, -6, 288]])
        self.assertEqual(last(*calls, ("fastest",)), [42])

    def test_the_greatest_speed(self):
        calls = (BEGIN, ("piece", 1, 17, 1200), ("pump", 0, 1000))
        self.assertEqual(ask(*calls, ("slowest",), ("fastest",))[3:], [[32], [99]])

    def test_one_speed_alone(self):
        calls = (("begin", 1, 0, 0, 39), ("piece", 1, 17, 1200), ("pump", 0, 1000))
        self.assertEqual(ask(*calls, ("slowest",), ("fastest",))[3:], [[99], [99]])
        # The piece loses 110 at 10, and 134 at 11; the pump gives 110 at both.
        calls = (BEGIN, ("piece", 400, 0, 100), ("pump", 0, 111))
        self.assertEqual(ask(*calls, ("slowest",), ("fastest",))[3:], [[10], [10]])

    def test_speeds_at_which_it_does_not_go_on_both_sides(self):
        calls = (("begin", 1, 0, 0, 500), piece(300), ("pump", 0, 600))
        self.assertEqual(ask(*calls, ("slowest",), ("fastest",))[3:], [[41], [69]])
        self.assertEqual(answered(calls, "pressures", 69, 70), [[2, 315, 1], [2, 306, -8]])

    def test_at_no_speed(self):
        self.assertEqual(last(BEGIN, PIECE, ("fastest",)), [-33])
        self.assertEqual(last(*PUMPED, ("on", 0, 0), ("fastest",)), [-33])
        self.assertEqual(last(*PUMPED, ("on", 0, 0), ("on", 0, 1), ("fastest",)), [88])

    def test_faster_than_99_is_no_speed(self):
        calls = (("begin", 1, 0, 0, 19), ("piece", 1, -300, 1200), ("pump", 0, 1000))
        self.assertEqual(last(*calls, ("fastest",)), [-33])


class Why(unittest.TestCase):
    def test_it_goes(self):
        self.assertEqual(answered(PUMPED, "why", 10, 88), [[0, 0], [0, 0]])

    def test_without_pieces(self):
        self.assertEqual(answered((("begin", 9, 40, 0, 1),), "why", 1, 50, 99), [[0, 0]] * 3)

    def test_just_settles(self):
        self.assertEqual(answered(PUMPED, "why", 1, 8, 9, 10), [[1, 0], [1, 0], [1, 0], [0, 0]])

    def test_the_first_piece_in_which_it_settles(self):
        narrow = ("piece", 1, 0, 100)
        wide = ("piece", 1, 0, 200)
        rows = [((wide, narrow, wide), 0), ((narrow, wide, wide), 1), ((narrow, narrow, wide), 2)]
        for pieces, first in rows:
            with self.subTest(pieces=pieces):
                calls = (BEGIN, *pieces, ("pump", 0, 100))
                self.assertEqual(answered(calls, "why", 9, 10, 11, 12), [[1, 0], [1, first], [1, first], [0, 0]])

    def test_the_least_pressure_just_met(self):
        for low, answer in ((-5, [0, 0]), (-4, [2, 1]), (0, [2, 1])):
            with self.subTest(low=low):
                calls = (("begin", 1, 0, low, 1000), piece(4), piece(-300))
                self.assertEqual(answered(calls, "why", 10), [answer])

    def test_the_first_joint_with_too_little(self):
        calls = (("begin", 1, 0, -8, 1000), piece(3), piece(3), piece(3), piece(-300))
        self.assertEqual(last(*calls, ("pressures", 10)), [5, 0, -4, -8, -12, 287])
        self.assertEqual(answered(calls, "why", 10), [[2, 3]])
        self.assertEqual(answered((("begin", 1, 0, -7, 1000),) + calls[1:], "why", 10), [[2, 2]])
        self.assertEqual(answered((("begin", 1, 0, -3, 1000),) + calls[1:], "why", 10), [[2, 1]])

    def test_the_most_pressure_just_met(self):
        for high, answer in ((99, [0, 0]), (98, [3, 0])):
            with self.subTest(high=high):
                self.assertEqual(answered((("begin", 1, 0, 0, high),) + PUMPED[1:], "why", 10), [answer])

    def test_the_first_joint_with_too_much(self):
        calls = (piece(-10), piece(-10), piece(-10), piece(0), ("pump", 0, 50))
        self.assertEqual(last(BEGIN, *calls, ("pressures", 10)), [5, 50, 59, 68, 77, 76])
        for high, answer in ((77, [0, 0]), (76, [3, 3]), (67, [3, 2]), (58, [3, 1]), (49, [3, 0])):
            with self.subTest(high=high):
                self.assertEqual(answered((("begin", 1, 0, 0, high),) + calls, "why", 10), [answer])

    def test_two_pumps_at_one_joint(self):
        for high, answer in ((198, [0, 0]), (197, [3, 0])):
            with self.subTest(high=high):
                calls = (("begin", 1, 0, 0, high),) + PUMPED[1:] + (("pump", 0, 100),)
                self.assertEqual(answered(calls, "why", 10), [answer])

    def test_an_end_that_is_just_at_0(self):
        for rise, answer in ((98, [0, 0]), (99, [4, 1])):
            with self.subTest(rise=rise):
                self.assertEqual(answered((BEGIN, piece(rise), PUMPED[2]), "why", 10), [answer])

    def test_the_end_is_told_by_its_number(self):
        self.assertEqual(answered((BEGIN, piece(-3), piece(-3), piece(9)), "why", 10), [[4, 3]])
        self.assertEqual(answered((BEGIN, *[piece(-2)] * 7, piece(300)), "why", 10), [[4, 8]])

    def test_the_end_is_not_bound_like_the_others(self):
        self.assertEqual(answered((("begin", 1, 0, -100, 1), piece(0)), "why", 10), [[4, 1]])
        self.assertEqual(answered((("begin", 1, 0, 0, 1), piece(300)), "why", 10), [[4, 1]])
        self.assertEqual(answered((("begin", 1, 0, 0, 1), piece(-300)), "why", 10), [[0, 0]])

    def test_settling_is_told_ahead_of_all(self):
        late = ("piece", 1, 0, 200)
        too_little = (("begin", 1, 0, 0, 1000), piece(5), piece(-300), late)
        too_much = (("begin", 1, 0, 0, 50), piece(0), piece(0), late, ("pump", 0, 100))
        end_below_0 = (("begin", 1, 0, 0, 50), piece(-5), piece(-5), late, ("cut",), ("piece", 1, 300, 200))
        for calls, later in ((too_little, [2, 1]), (too_much, [3, 0]), (end_below_0, [4, 3])):
            with self.subTest(calls=calls):
                self.assertEqual(answered(calls, "why", 11, 12), [[1, 2], later])

    def test_too_little_is_told_ahead_of_too_much_and_of_the_end(self):
        calls = (("begin", 1, 0, 0, 50), piece(300), piece(0), ("pump", 0, 100))
        self.assertEqual(last(*calls, ("pressures", 10)), [3, 99, -202, -203])
        self.assertEqual(answered(calls, "why", 10), [[2, 1]])
        self.assertEqual(answered((("begin", 1, 0, 0, 1000),) + calls[1:], "why", 10), [[2, 1]])

    def test_too_much_is_told_ahead_of_the_end(self):
        calls = (("begin", 1, 0, 0, 50), piece(-10), piece(300), ("pump", 1, 80))
        self.assertEqual(last(*calls, ("pressures", 10)), [3, 0, 89, -212])
        self.assertEqual(answered(calls, "why", 10), [[3, 1]])

    def test_a_piece_that_falls_divided(self):
        # At a mixture of 1 what falls by 1 is lifted by -2; rounded up it would be -1, and the end at -1.
        calls = (("begin", 1, 1, 0, 1), piece(-1), piece(0))
        self.assertEqual(last(*calls, ("pressures", 10)), [3, 0, 1, 0])
        self.assertEqual(answered(calls, "why", 10), [[0, 0]])

    def test_a_pump_at_a_speed_of_99(self):
        for rise, answer in ((17, [0, 0]), (18, [4, 1])):
            with self.subTest(rise=rise):
                calls = (BEGIN, ("piece", 1, rise, 1200), ("pump", 0, 1000))
                self.assertEqual(answered(calls, "why", 99), [answer])

    def test_refusals(self):
        self.assertEqual(answered(PUMPED, "why", *WRONG_SPEEDS), [[-22]] * 4)
        self.assertEqual(answered((BEGIN,), "why", *WRONG_SPEEDS), [[-22]] * 4)
        self.assertEqual(answered(PUMPED, "why", 1, 99), [[1, 0], [4, 1]])


class Blocks(unittest.TestCase):
    # They settle at 9, 13, 9 and 11.
    PIECES = (BEGIN, ("piece", 1, 0, 100), ("piece", 1, 0, 300), ("piece", 1, 0, 100), ("piece", 1, 0, 200))

    def test_which(self):
        self.assertEqual(answered(self.PIECES, "blocks", 1, 8, 9), [[4, 0, 1, 2, 3]] * 3)
        self.assertEqual(answered(self.PIECES, "blocks", 10, 11), [[2, 1, 3]] * 2)
        self.assertEqual(answered(self.PIECES, "blocks", 12, 13), [[1, 1]] * 2)
        self.assertEqual(answered(self.PIECES, "blocks", 14, 99), [[0]] * 2)

    def test_without_pieces(self):
        self.assertEqual(answered((("begin", 9, 40, 0, 1),), "blocks", 1, 50, 99), [[0]] * 3)

    def test_all_of_eight(self):
        calls = (("begin", 9, 40, 0, 1),) + (("piece", 1, 0, 1200),) * 8
        self.assertEqual(answered(calls, "blocks", 51, 52), [[8, 0, 1, 2, 3, 4, 5, 6, 7], [0]])

    def test_pressures_do_not_matter(self):
        calls = (("begin", 1, 0, 0, 1), piece(300), piece(-300), ("pump", 0, 1000))
        self.assertEqual(answered(calls, "blocks", 9, 10), [[2, 0, 1], [0]])

    def test_the_mixture_and_the_grain_that_stand(self):
        self.assertEqual(answered(self.PIECES + (("mix", 20),), "blocks", 11, 12), [[4, 0, 1, 2, 3], [2, 1, 3]])
        self.assertEqual(answered(self.PIECES + (("grain", 2),), "blocks", 11, 12), [[4, 0, 1, 2, 3], [2, 1, 3]])

    def test_refusals(self):
        self.assertEqual(answered(self.PIECES, "blocks", *WRONG_SPEEDS), [[-22]] * 4)
        self.assertEqual(answered((BEGIN,), "blocks", *WRONG_SPEEDS), [[-22]] * 4)


class Spare(unittest.TestCase):
    def test_the_pressure_at_the_end(self):
        self.assertEqual(answered(PUMPED, "spare", 10, 88), [[0, 98], [0, 1]])
        calls = (BEGIN, piece(20), piece(-7), piece(30), ("pump", 0, 50), ("pump", 2, 60))
        self.assertEqual(answered(calls, "spare", 10), [[0, 64]])

    def test_without_pieces(self):
        self.assertEqual(answered((("begin", 9, 40, 0, 1),), "spare", 1, 99), [[0, 0]] * 2)

    def test_an_end_that_is_just_at_0(self):
        for rise, answer in ((97, [0, 1]), (98, [0, 0]), (99, [-33])):
            with self.subTest(rise=rise):
                self.assertEqual(answered((BEGIN, piece(rise), PUMPED[2]), "spare", 10), [answer])

    def test_an_end_above_the_most(self):
        self.assertEqual(answered((("begin", 1, 0, 0, 1), piece(-300)), "spare", 10), [[0, 299]])

    def test_whatever_stands_against_it(self):
        self.assertEqual(answered(PUMPED, "spare", 9, 10), [[-33], [0, 98]])
        for low, answer in ((-5, [0, 294]), (-4, [-33])):
            calls = (("begin", 1, 0, low, 1000), piece(4), piece(-300))
            self.assertEqual(answered(calls, "spare", 10), [answer])
        for high, answer in ((99, [0, 98]), (98, [-33])):
            self.assertEqual(answered((("begin", 1, 0, 0, high),) + PUMPED[1:], "spare", 10), [answer])

    def test_a_pump_at_a_speed_of_99(self):
        for rise, answer in ((16, [0, 1]), (17, [0, 0]), (18, [-33])):
            calls = (BEGIN, ("piece", 1, rise, 1200), ("pump", 0, 1000))
            self.assertEqual(answered(calls, "spare", 99), [answer])

    def test_refusals(self):
        self.assertEqual(answered(PUMPED, "spare", *WRONG_SPEEDS), [[-22]] * 4)
        self.assertEqual(answered((BEGIN,), "spare", *WRONG_SPEEDS), [[-22]] * 4)
        # Out of range is told ahead of its not going.
        self.assertEqual(answered((BEGIN, PIECE), "spare", 0, 1, 99, 100), [[-22], [-33], [-33], [-22]])


if __name__ == "__main__":
    unittest.main()
