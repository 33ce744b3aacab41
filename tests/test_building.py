"""Promise 1: begin, piece, pump, on, mix, grain, cut."""

import unittest

from tests.helper import HIGHEST, LARGEST, LOWEST, ask, last, seen_after

BEGIN = ("begin", 1, 0, -10, 500)
PIECE = ("piece", 100, 0, 100)
EIGHT = (BEGIN,) + (PIECE,) * 8
SIX_PUMPS = (BEGIN, PIECE) + (("pump", 0, 10),) * 6


class Begin(unittest.TestCase):
    def test_ranges(self):
        rows = [
            ((0, 0, 0, 1), -22), ((1, 0, 0, 1), 0), ((9, 0, 0, 1), 0), ((10, 0, 0, 1), -22),
            ((LARGEST, 0, 0, 1), -22),
            ((5, 40, 0, 1), 0), ((5, 41, 0, 1), -22), ((5, LARGEST, 0, 1), -22),
            ((5, 5, -101, 9), -22), ((5, 5, -100, 9), 0), ((5, 5, 1, 9), -22),
            ((5, 5, LOWEST, 9), -22), ((5, 5, HIGHEST, 9), -22),
            ((5, 5, 0, 0), -22), ((5, 5, 0, -1), -22), ((5, 5, 0, 3000), 0), ((5, 5, 0, 3001), -22),
            ((5, 5, 0, LOWEST), -22), ((5, 5, 0, HIGHEST), -22),
            ((9, 40, -100, 3000), 0), ((0, 41, 1, 0), -22),
        ]
        for told, answer in rows:
            with self.subTest(told=told):
                self.assertEqual(last(("begin",) + told), [answer])

    def test_a_begin_that_is_refused_begins_nothing(self):
        for told in ((0, 0, 0, 1), (1, 41, 0, 1), (1, 0, 1, 1), (1, 0, 0, 0)):
            with self.subTest(told=told):
                self.assertEqual(ask(("begin",) + told, PIECE, ("slowest",)), [[-22], [-11], [-11]])

    def test_what_is_told_holds(self):
        self.assertEqual(ask(("begin", 7, 31, 0, 1), ("grain", 1), ("mix", 1)), [[0], [7], [31]])

    def test_a_second_begin_takes_the_pipe_away(self):
        first = (BEGIN, PIECE, ("piece", 7, 7, 700), ("pump", 1, 60), ("on", 0, 0))
        self.assertEqual(ask(*first, ("begin", 4, 30, -1, 9), ("pressures", 20), ("cut",), ("gives", 0, 20))[5:],
                         [[0], [1, 0], [-6], [-2]])
        again = (("begin", 4, 30, -6, 80), ("piece", 9, -20, 150), ("piece", 9, 20, 150), ("pump", 0, 99))
        self.assertEqual(seen_after(*first, *again), seen_after(*again))

    def test_a_second_begin_counts_anew(self):
        self.assertEqual(ask(*EIGHT, BEGIN, PIECE)[9:], [[0], [0]])
        self.assertEqual(ask(*SIX_PUMPS, BEGIN, PIECE, ("pump", 0, 10))[8:], [[0], [0], [0]])


class AddPiece(unittest.TestCase):
    def test_ranges(self):
        rows = [
            ((0, 0, 100), -22), ((1, 0, 100), 0), ((3000, 0, 100), 0), ((3001, 0, 100), -22),
            ((LARGEST, 0, 100), -22),
            ((5, -301, 100), -22), ((5, -300, 100), 0), ((5, 300, 100), 0), ((5, 301, 100), -22),
            ((5, LOWEST, 100), -22), ((5, HIGHEST, 100), -22),
            ((5, 0, 0), -22), ((5, 0, 99), -22), ((5, 0, 1200), 0), ((5, 0, 1201), -22), ((5, 0, LARGEST), -22),
        ]
        for told, answer in rows:
            with self.subTest(told=told):
                self.assertEqual(last(BEGIN, ("piece",) + told), [answer])

    def test_numbers_run_from_0_to_7(self):
        self.assertEqual(ask(*EIGHT)[1:], [[number] for number in range(8)])

    def test_a_ninth_is_too_many(self):
        self.assertEqual(last(*EIGHT, PIECE), [-28])

    def test_out_of_range_comes_ahead_of_too_many(self):
        for told in ((0, 0, 100), (5, 301, 100), (5, 0, 99)):
            with self.subTest(told=told):
                self.assertEqual(last(*EIGHT, ("piece",) + told), [-22])

    def test_a_piece_comes_at_the_end(self):
        calls = (BEGIN, ("piece", 5, 1, 100), ("piece", 5, 2, 200), ("piece", 5, 3, 300))
        self.assertEqual(ask(*calls, ("loses", 0, 1), ("loses", 1, 1), ("loses", 2, 1))[4:], [[1, 1], [1, 2], [1, 3]])
        self.assertEqual(ask(*calls, ("settles", 0), ("settles", 1), ("settles", 2))[4:], [[9], [11], [13]])


class AddPump(unittest.TestCase):
    def test_adds(self):
        for adds, answer in ((0, -22), (1, 0), (1000, 0), (1001, -22), (LARGEST, -22)):
            with self.subTest(adds=adds):
                self.assertEqual(last(BEGIN, PIECE, ("pump", 0, adds)), [answer])

    def test_no_such_piece(self):
        self.assertEqual(last(BEGIN, ("pump", 0, 10)), [-2])
        self.assertEqual(last(BEGIN, PIECE, PIECE, ("pump", 1, 10)), [0])
        self.assertEqual(last(BEGIN, PIECE, PIECE, ("pump", 2, 10)), [-2])
        self.assertEqual(last(*EIGHT, ("pump", 7, 10)), [0])
        self.assertEqual(last(*EIGHT, ("pump", 8, 10)), [-2])
        self.assertEqual(last(BEGIN, PIECE, ("pump", LARGEST, 10)), [-2])

    def test_numbers_run_from_0_to_5(self):
        self.assertEqual(ask(*SIX_PUMPS)[2:], [[number] for number in range(6)])

    def test_a_seventh_is_too_many(self):
        self.assertEqual(last(*SIX_PUMPS, ("pump", 0, 10)), [-28])

    def test_pumps_that_are_off_count_too(self):
        self.assertEqual(last(*SIX_PUMPS, ("on", 2, 0), ("pump", 0, 10)), [-28])

    def test_which_refusal_comes_first(self):
        self.assertEqual(last(BEGIN, ("pump", 0, 0)), [-2])
        self.assertEqual(last(*SIX_PUMPS, ("pump", 1, 10)), [-2])
        self.assertEqual(last(*SIX_PUMPS, ("pump", 1, 0)), [-2])
        self.assertEqual(last(*SIX_PUMPS, ("pump", 0, 0)), [-22])
        self.assertEqual(last(*SIX_PUMPS, ("pump", 0, 1001)), [-22])

    def test_a_new_pump_runs(self):
        self.assertEqual(ask(BEGIN, PIECE, ("pump", 0, 10), ("gives", 0, 1), ("on", 0, 1))[3:], [[10], [-17]])

    def test_a_pump_stands_where_it_was_told(self):
        calls = (BEGIN, PIECE, PIECE, PIECE, ("pump", 1, 50))
        # At a speed of 1 each of these pieces loses 1.
        self.assertEqual(last(*calls, ("pressures", 1)), [4, 0, 49, 48, 47])


class On(unittest.TestCase):
    PUMPED = (BEGIN, PIECE, ("pump", 0, 10), ("pump", 0, 20))

    def test_off_and_on(self):
        calls = [("on", 1, 0), ("gives", 1, 1), ("gives", 0, 1), ("on", 1, 1), ("gives", 1, 1)]
        self.assertEqual(ask(*self.PUMPED, *calls)[4:], [[0], [0], [10], [0], [20]])

    def test_no_such_pump(self):
        self.assertEqual(last(BEGIN, PIECE, ("on", 0, 0)), [-2])
        for pump, answer in ((1, 0), (2, -2), (LARGEST, -2)):
            with self.subTest(pump=pump):
                self.assertEqual(last(*self.PUMPED, ("on", pump, 0)), [answer])

    def test_out_of_range(self):
        for b in (2, 3, LARGEST):
            with self.subTest(b=b):
                self.assertEqual(last(*self.PUMPED, ("on", 0, b)), [-22])
                self.assertEqual(last(*self.PUMPED, ("on", 0, 0), ("on", 0, b)), [-22])

    def test_already(self):
        self.assertEqual(last(*self.PUMPED, ("on", 0, 1)), [-17])
        self.assertEqual(last(*self.PUMPED, ("on", 0, 0), ("on", 0, 0)), [-17])
        self.assertEqual(last(*self.PUMPED, ("on", 0, 0), ("on", 0, 1), ("on", 0, 1)), [-17])

    def test_no_such_pump_comes_ahead_of_out_of_range(self):
        self.assertEqual(last(*self.PUMPED, ("on", 2, 2)), [-2])


class MixAndGrain(unittest.TestCase):
    def test_mix(self):
        calls = [("mix", 40), ("mix", 41), ("mix", LARGEST), ("mix", 0), ("mix", 17), ("mix", 17), ("mix", 1)]
        self.assertEqual(ask(("begin", 1, 3, 0, 1), *calls)[1:], [[3], [-22], [-22], [40], [0], [17], [17]])

    def test_grain(self):
        calls = [("grain", 9), ("grain", 10), ("grain", 0), ("grain", LARGEST), ("grain", 1), ("grain", 1), ("grain", 2)]
        self.assertEqual(ask(("begin", 5, 3, 0, 1), *calls)[1:], [[5], [-22], [-22], [-22], [9], [1], [1]])

    def test_they_are_what_is_pumped_from_then_on(self):
        built = (("piece", 90, -33, 150), ("piece", 50, 12, 300), ("pump", 0, 300))
        changed = seen_after(("begin", 2, 5, -9, 290), *built, ("mix", 36), ("grain", 7))
        self.assertEqual(changed, seen_after(("begin", 7, 36, -9, 290), *built))
        self.assertNotEqual(changed, seen_after(("begin", 2, 36, -9, 290), *built))
        self.assertNotEqual(changed, seen_after(("begin", 7, 5, -9, 290), *built))


class Cut(unittest.TestCase):
    def test_how_many_are_left(self):
        self.assertEqual(ask(*EIGHT, *[("cut",)] * 9)[9:], [[7], [6], [5], [4], [3], [2], [1], [0], [-6]])

    def test_without_pieces(self):
        self.assertEqual(last(BEGIN, ("cut",)), [-6])

    def test_a_pump_at_the_last_piece(self):
        calls = (BEGIN, PIECE, PIECE, ("pump", 1, 10))
        self.assertEqual(last(*calls, ("cut",)), [-16])
        self.assertEqual(last(*calls, ("on", 0, 0), ("cut",)), [-16])
        self.assertEqual(last(*calls, ("pump", 0, 10), ("cut",)), [-16])

    def test_a_pump_ahead_of_the_last_piece(self):
        calls = (BEGIN, PIECE, PIECE, PIECE, ("pump", 1, 10), ("cut",), ("cut",))
        self.assertEqual(ask(*calls)[5:], [[2], [-16]])

    def test_the_last_piece_goes(self):
        first = (BEGIN, ("piece", 90, 30, 150), ("pump", 0, 300))
        self.assertEqual(seen_after(*first, ("piece", 8, 80, 800), ("cut",)), seen_after(*first))

    def test_a_cut_piece_is_none(self):
        calls = (BEGIN, PIECE, PIECE, ("cut",))
        self.assertEqual(ask(*calls, ("pump", 1, 10), ("settles", 1), ("loses", 1, 5))[4:], [[-2], [-2], [-2]])

    def test_a_new_piece_takes_its_number(self):
        self.assertEqual(ask(BEGIN, PIECE, PIECE, ("cut",), ("piece", 9, 9, 999), ("settles", 1))[4:], [[1], [26]])
        self.assertEqual(ask(*EIGHT, ("cut",), PIECE, PIECE)[9:], [[7], [7], [-28]])


if __name__ == "__main__":
    unittest.main()
