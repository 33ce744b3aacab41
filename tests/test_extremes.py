"""Promise 2: least, most."""

import unittest

from tests.helper import WRONG_SPEEDS, ask, last

BEGIN = ("begin", 1, 0, -10, 500)
# At a speed of 10 a piece of this length and width loses 1, and a pump below 100 gives all it adds.
PIECE = ("piece", 1, 0, 100)


def piece(rise):
    return ("piece", 1, rise, 100)


def extremes(*calls):
    """What least and most answer at a speed of 10."""
    return ask(*calls, ("least", 10), ("most", 10))[-2:]


class LeastAndMost(unittest.TestCase):
    def test_ordinary(self):
        calls = (BEGIN, piece(20), piece(-7), piece(30), ("pump", 0, 50), ("pump", 2, 60))
        self.assertEqual(last(*calls, ("pressures", 10)), [4, 50, 29, 95, 64])
        self.assertEqual(extremes(*calls), [[1, 29], [2, 95]])

    def test_without_pieces(self):
        for speed in (1, 50, 99):
            self.assertEqual(ask(BEGIN, ("least", speed), ("most", speed))[1:], [[0, 0], [0, 0]])

    def test_at_the_first_joint(self):
        self.assertEqual(extremes(BEGIN, piece(-30), piece(10)), [[0, 0], [1, 29]])
        self.assertEqual(extremes(BEGIN, piece(30), piece(-10)), [[1, -31], [0, 0]])

    def test_at_the_end(self):
        self.assertEqual(extremes(BEGIN, piece(5), piece(5)), [[2, -12], [0, 0]])
        self.assertEqual(extremes(BEGIN, piece(-5), piece(-5)), [[0, 0], [2, 8]])

    def test_all_alike(self):
        self.assertEqual(last(BEGIN, piece(-1), piece(-1), ("pressures", 10)), [3, 0, 0, 0])
        self.assertEqual(extremes(BEGIN, piece(-1), piece(-1)), [[0, 0], [0, 0]])

    def test_of_alike_ones_the_first_is_told_ahead_of_the_end(self):
        self.assertEqual(last(BEGIN, piece(4), piece(-1), ("pressures", 10)), [3, 0, -5, -5])
        self.assertEqual(extremes(BEGIN, piece(4), piece(-1)), [[1, -5], [0, 0]])
        self.assertEqual(last(BEGIN, piece(-6), piece(-1), ("pressures", 10)), [3, 0, 5, 5])
        self.assertEqual(extremes(BEGIN, piece(-6), piece(-1)), [[0, 0], [1, 5]])

    def test_of_alike_ones_apart_the_first_is_told(self):
        calls = (BEGIN, piece(9), piece(-11), piece(9), piece(-11), ("pump", 0, 9))
        self.assertEqual(last(*calls, ("pressures", 10)), [5, 9, -1, 9, -1, 9])
        self.assertEqual(extremes(*calls), [[1, -1], [0, 9]])

    def test_two_pumps_at_one_joint(self):
        calls = (BEGIN, piece(0), piece(0), ("pump", 1, 7), ("pump", 0, 10), ("pump", 1, 7))
        self.assertEqual(extremes(*calls), [[0, 10], [1, 23]])
        self.assertEqual(extremes(*calls, ("on", 0, 0), ("on", 2, 0)), [[2, 8], [0, 10]])

    def test_a_piece_that_falls_divided(self):
        # At a mixture of 1 what falls by 1 is lifted by -2, what rises by 1 by 1.
        calls = (("begin", 1, 1, 0, 9), piece(-1), piece(1), piece(1))
        self.assertEqual(last(*calls, ("pressures", 10)), [4, 0, 1, -1, -3])
        self.assertEqual(extremes(*calls), [[3, -3], [1, 1]])

    def test_a_loss_that_comes_out_even(self):
        calls = (BEGIN, ("piece", 1000, 0, 100), ("piece", 1001, 0, 100))
        self.assertEqual(last(*calls[:2], ("least", 20)), [1, -1100])
        self.assertEqual(last(*calls, ("least", 20)), [2, -2202])

    def test_a_pump_at_a_speed_of_99(self):
        calls = (BEGIN, ("piece", 1, 0, 1200), ("pump", 0, 1000))
        self.assertEqual(ask(*calls, ("least", 99), ("most", 99))[3:], [[1, 17], [0, 20]])

    def test_they_are_told_where_it_does_not_go(self):
        calls = (("begin", 9, 40, 0, 1), ("piece", 1, 300, 1200), ("pump", 0, 1000))
        self.assertEqual(ask(*calls, ("goes", 1), ("least", 1), ("most", 1))[3:], [[0], [1, 459], [0, 1000]])

    def test_eight_pieces(self):
        self.assertEqual(extremes(BEGIN, *[piece(1)] * 8), [[8, -16], [0, 0]])
        self.assertEqual(extremes(BEGIN, *[piece(-3)] * 8), [[0, 0], [8, 16]])

    def test_refusals(self):
        for name in ("least", "most"):
            for speed in WRONG_SPEEDS:
                with self.subTest(name=name, speed=speed):
                    self.assertEqual(last(BEGIN, (name, speed)), [-22])
                    self.assertEqual(last(BEGIN, PIECE, (name, speed)), [-22])

    def test_least_and_greatest_speed(self):
        calls = (BEGIN, ("piece", 100, 0, 100))
        self.assertEqual(ask(*calls, ("least", 1), ("most", 1))[2:], [[1, -1], [0, 0]])
        self.assertEqual(ask(*calls, ("least", 99), ("most", 99))[2:], [[1, -2696], [0, 0]])


if __name__ == "__main__":
    unittest.main()
