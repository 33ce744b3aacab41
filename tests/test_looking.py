"""Promise 4: flow, look, state."""

import unittest

from tests.helper import LARGEST, WRONG_SPEEDS, ask, last

BEGIN = ("begin", 1, 0, -10, 500)
PIECE = ("piece", 100, 0, 100)


class Flow(unittest.TestCase):
    def test_litres_and_sand(self):
        rows = [
            # mix, wide, speed, answer
            (0, 100, 1, [0, 0]),            # 0.75 litres
            (40, 100, 2, [1, 0]),           # 1.5 litres
            (40, 100, 4, [3, 1]),           # just 3 litres, 1.2 of them sand
            (25, 200, 4, [12, 3]),          # both come out even
            (40, 100, 10, [7, 2]),          # 7.5 litres; of 7 are 2.8 sand, of 7.5 just 3
            (0, 1200, 99, [10692, 0]),
            (40, 1200, 99, [10692, 4276]),  # 4276.8
            (1, 1200, 1, [108, 1]),
            (33, 777, 50, [2263, 746]),     # 2263.98 litres, 746.79
        ]
        for mix, wide, speed, answer in rows:
            with self.subTest(mix=mix, wide=wide, speed=speed):
                calls = (("begin", 5, mix, 0, 1), ("piece", 9, 9, wide), ("flow", speed))
                self.assertEqual(last(*calls), answer)

    def test_the_least_width(self):
        for widths in ((200, 500, 900), (500, 200, 900), (900, 500, 200), (200, 200, 1200)):
            with self.subTest(widths=widths):
                calls = [("begin", 1, 10, 0, 1)] + [("piece", 9, 9, wide) for wide in widths]
                self.assertEqual(last(*calls, ("flow", 20)), [60, 6])

    def test_it_is_told_where_it_does_not_go(self):
        calls = (("begin", 9, 40, 0, 1), ("piece", 3000, 300, 1200))
        self.assertEqual(ask(*calls, ("goes", 1), ("flow", 1))[2:], [[0], [108, 43]])

    def test_the_mixture_that_stands(self):
        calls = (("begin", 1, 10, 0, 1), ("piece", 9, 9, 200))
        self.assertEqual(ask(*calls, ("mix", 30), ("flow", 20))[2:], [[10], [60, 18]])

    def test_refusals(self):
        for speed in WRONG_SPEEDS:
            with self.subTest(speed=speed):
                self.assertEqual(last(BEGIN, PIECE, ("flow", speed)), [-22])
                # Out of range is told ahead of there being no pieces.
                self.assertEqual(last(BEGIN, ("flow", speed)), [-22])

    def test_without_pieces(self):
        for speed in (1, 99):
            self.assertEqual(last(BEGIN, ("flow", speed)), [-6])
        self.assertEqual(last(BEGIN, PIECE, ("cut",), ("flow", 50)), [-6])


class Look(unittest.TestCase):
    def test_without_pumps(self):
        calls = (BEGIN, ("piece", 5, -6, 700), ("piece", 3000, 300, 1200), ("piece", 1, -300, 100), ("piece", 8, 0, 101))
        self.assertEqual(ask(*calls, *[("look", number) for number in range(4)])[5:],
                         [[5, -6, 700], [3000, 300, 1200], [1, -300, 100], [8, 0, 101]])

    def test_the_pumps_at_its_beginning_in_order(self):
        calls = (BEGIN, PIECE, PIECE, PIECE, ("pump", 2, 9), ("pump", 0, 8), ("pump", 2, 7), ("pump", 2, 6))
        self.assertEqual(ask(*calls, ("look", 0), ("look", 1), ("look", 2))[8:],
                         [[100, 0, 100, 1], [100, 0, 100], [100, 0, 100, 0, 2, 3]])

    def test_pumps_that_are_off_stand_there_too(self):
        calls = (BEGIN, PIECE, ("pump", 0, 9), ("pump", 0, 8), ("on", 0, 0))
        self.assertEqual(last(*calls, ("look", 0)), [100, 0, 100, 0, 1])

    def test_six_pumps_at_the_last_of_eight(self):
        calls = (BEGIN, *[PIECE] * 7, ("piece", 2, 3, 400), *[("pump", 7, 5)] * 6)
        self.assertEqual(ask(*calls, ("look", 6), ("look", 7))[-2:], [[100, 0, 100], [2, 3, 400, 0, 1, 2, 3, 4, 5]])

    def test_no_such_piece(self):
        self.assertEqual(last(BEGIN, ("look", 0)), [-2])
        self.assertEqual(ask(BEGIN, PIECE, ("look", 0), ("look", 1), ("look", LARGEST))[2:], [[100, 0, 100], [-2], [-2]])
        self.assertEqual(last(BEGIN, *[PIECE] * 8, ("look", 8)), [-2])
        self.assertEqual(last(BEGIN, PIECE, PIECE, ("cut",), ("look", 1)), [-2])


class State(unittest.TestCase):
    def test_without_pieces(self):
        self.assertEqual(last(("begin", 7, 31, -100, 3000), ("state",)), [0, 0, 0, 7, 31, -100, 3000, 0])
        self.assertEqual(last(("begin", 1, 0, 0, 1), ("state",)), [0, 0, 0, 1, 0, 0, 1, 0])

    def test_what_is_built(self):
        calls = (BEGIN, ("piece", 5, -6, 700), ("piece", 3000, 300, 1200), ("pump", 1, 9), ("pump", 0, 8), ("pump", 0, 7))
        self.assertEqual(last(*calls, ("state",)), [0, 2, 3, 1, 0, -10, 500, 3005])
        self.assertEqual(last(*calls, ("on", 1, 0), ("state",)), [0, 2, 3, 1, 0, -10, 500, 3005])

    def test_what_is_changed(self):
        calls = (BEGIN, ("piece", 5, -6, 700), ("piece", 30, 3, 100), ("pump", 0, 9))
        told = ask(*calls, ("mix", 40), ("state",), ("grain", 9), ("state",), ("cut",), ("state",))[4:]
        self.assertEqual(told, [[0], [0, 2, 1, 1, 40, -10, 500, 35], [1], [0, 2, 1, 9, 40, -10, 500, 35], [1],
                                [0, 1, 1, 9, 40, -10, 500, 5]])

    def test_a_second_begin(self):
        calls = (BEGIN, PIECE, ("pump", 0, 9), ("begin", 4, 5, -6, 7), ("state",))
        self.assertEqual(last(*calls), [0, 0, 0, 4, 5, -6, 7, 0])
        refused = (BEGIN, PIECE, ("pump", 0, 9), ("begin", 4, 5, -6, 0), ("state",))
        self.assertEqual(last(*refused), [0, 1, 1, 1, 0, -10, 500, 100])

    def test_the_most_of_all(self):
        calls = (("begin", 9, 40, -100, 3000),) + (("piece", 3000, 300, 1200),) * 8 + (("pump", 7, 1000),) * 6
        self.assertEqual(last(*calls, ("state",)), [0, 8, 6, 9, 40, -100, 3000, 24000])


if __name__ == "__main__":
    unittest.main()
