"""What is said of every call: -11 ahead of a begin, refusals and looks change nothing, and the interface."""

import unittest

from sandpipe.pipe import answers
from tests.helper import BUILT, LARGEST, NAMES, ask, laid, last, probe, seen_after

# Its speeds at which it goes end, below and above, at the most and at the least pressure.
PIPE = (
    ("begin", 3, 25, -46, 556), ("piece", 200, 35, 400), ("piece", 120, -61, 250), ("piece", 15, -250, 150),
    ("pump", 0, 610), ("pump", 1, 70), ("pump", 1, 45), ("on", 1, 0),
)
CALLS = {
    "begin": (3, 5, -5, 100), "piece": (5, 5, 500), "pump": (0, 5), "on": (0, 0), "mix": (5,), "grain": (5,),
    "cut": (), "loses": (0, 5), "settles": (0,), "gives": (0, 5), "pressures": (5,), "goes": (5,), "slowest": (),
    "fastest": (), "why": (5,), "blocks": (5,), "least": (5,), "most": (5,), "spare": (5,), "fewest": (5,),
    "richest": (5,), "farther": (5, 500), "flow": (5,), "look": (0,), "state": (),
}


class NotBegun(unittest.TestCase):
    def test_every_call_but_begin(self):
        for name in NAMES[1:]:
            with self.subTest(name=name):
                # The begin behind it shows where the call ends.
                self.assertEqual(ask((name,) + CALLS[name], PIPE[0]), [[-11], [0]])

    def test_it_comes_ahead_of_every_other_refusal(self):
        for name in NAMES[1:]:
            with self.subTest(name=name):
                wrong = (LARGEST,) * len(CALLS[name])
                self.assertEqual(ask((name,) + wrong, PIPE[0]), [[-11], [0]])

    def test_all_of_them_behind_a_refused_begin(self):
        calls = [(name,) + CALLS[name] for name in NAMES[1:]]
        self.assertEqual(ask(("begin", 0, 0, 0, 1), *calls), [[-22]] + [[-11]] * 24)

    def test_nothing_is_left_of_what_came_ahead(self):
        ahead = [(name,) + CALLS[name] for name in NAMES[1:]]
        self.assertEqual(seen_after(*ahead, *PIPE), seen_after(*PIPE))

    def test_a_refused_begin_behind_one_that_answers_0(self):
        self.assertEqual(ask(("begin", 3, 5, 0, 1), ("begin", 0, 0, 0, 1), ("mix", 1)), [[0], [-22], [5]])


class Unchanged(unittest.TestCase):
    def other_pipes(self):
        """Pipes that differ from PIPE in one thing each."""
        yield (("begin", 4) + PIPE[0][2:],) + PIPE[1:]
        yield (("begin", 3, 26) + PIPE[0][3:],) + PIPE[1:]
        yield (("begin", 3, 25, -45, 556),) + PIPE[1:]
        yield (("begin", 3, 25, -46, 555),) + PIPE[1:]
        yield PIPE[:1] + (("piece", 201, 35, 400),) + PIPE[2:]
        yield PIPE[:1] + (("piece", 200, 36, 400),) + PIPE[2:]
        yield PIPE[:1] + (("piece", 200, 35, 399),) + PIPE[2:]
        yield PIPE[:4] + (("pump", 1, 610),) + PIPE[5:]
        yield PIPE[:4] + (("pump", 0, 611),) + PIPE[5:]
        yield PIPE[:7]
        yield PIPE + (("on", 2, 0),)
        yield PIPE + (("piece", 1, 1, 100),)
        yield PIPE + (("pump", 2, 1),)
        yield PIPE + (("cut",),)

    def test_the_probe_tells_pipes_apart(self):
        seen = seen_after(*PIPE)
        for number, other in enumerate(self.other_pipes()):
            with self.subTest(number=number):
                self.assertNotEqual(seen_after(*other), seen)

    def refused(self):
        yield from [("begin", 0, 7, -1, 9), ("begin", 10, 7, -1, 9), ("begin", 4, 41, -1, 9)]
        yield from [("begin", 4, 7, -101, 9), ("begin", 4, 7, 1, 9), ("begin", 4, 7, -1, 0), ("begin", 4, 7, -1, 3001)]
        yield from [("piece", 0, 5, 500), ("piece", 3001, 5, 500), ("piece", 5, -301, 500), ("piece", 5, 301, 500)]
        yield from [("piece", 5, 5, 99), ("piece", 5, 5, 1201)]
        yield from [("pump", 3, 5), ("pump", 0, 0), ("pump", 0, 1001)]
        yield from [("on", 3, 1), ("on", 0, 2), ("on", 1, 2), ("on", 0, 1), ("on", 1, 0)]
        yield from [("mix", 41), ("mix", LARGEST), ("grain", 0), ("grain", 10)]
        yield from [("loses", 3, 5), ("loses", 0, 0), ("loses", 0, 100), ("settles", 3)]
        yield from [("gives", 3, 5), ("gives", 0, 0), ("gives", 0, 100)]
        yield from [("pressures", 0), ("pressures", 100), ("goes", 0), ("goes", 100)]

    def test_what_is_refused_changes_nothing(self):
        seen = seen_after(*PIPE)
        for call in self.refused():
            with self.subTest(call=call):
                answer = last(*PIPE, call)
                self.assertEqual(len(answer), 1)
                self.assertLess(answer[0], 0)
                self.assertEqual(seen_after(*PIPE, call), seen)

    def test_all_refused_together_change_nothing(self):
        self.assertEqual(seen_after(*PIPE, *self.refused()), seen_after(*PIPE))

    def test_too_many_and_a_pump_at_the_last_piece_change_nothing(self):
        full = (("begin", 1, 0, -10, 900),) + (("piece", 9, 1, 100),) * 8 + (("pump", 7, 150),) * 6
        for call, answer in ((("piece", 9, 9, 900), -28), (("pump", 0, 9), -28), (("cut",), -16)):
            with self.subTest(call=call):
                self.assertEqual(last(*full, call), [answer])
                self.assertEqual(seen_after(*full, call), seen_after(*full))

    def test_a_cut_of_nothing_and_no_speed_change_nothing(self):
        self.assertEqual(seen_after(PIPE[0], ("cut",), *PIPE[1:]), seen_after(*PIPE))
        stuck = (("begin", 3, 25, 0, 1), ("piece", 9, 9, 900))
        self.assertEqual(last(*stuck, ("slowest",)), [-33])
        self.assertEqual(seen_after(*stuck, ("slowest",)), seen_after(*stuck))

    def test_looking_changes_nothing(self):
        looks = [("loses", 0, 7), ("settles", 2), ("gives", 0, 7), ("gives", 1, 7), ("pressures", 7), ("goes", 7),
                 ("goes", 40), ("slowest",)]
        seen = seen_after(*PIPE)
        for call in looks:
            with self.subTest(call=call):
                self.assertEqual(seen_after(*PIPE, call), seen)

    def test_looking_between_changes(self):
        between = []
        for call in PIPE:
            between.extend([call, ("pressures", 40), ("slowest",), ("goes", 40), ("gives", 0, 9), ("loses", 0, 9)])
        self.assertEqual(seen_after(*between), seen_after(*PIPE))


class Locked(list):
    """A list that can only be read."""

    def refuse(self, *told, **named):
        raise AssertionError("the list that is handed in was to be changed")

    append = extend = insert = pop = remove = clear = sort = reverse = refuse
    __setitem__ = __delitem__ = __iadd__ = __imul__ = refuse


class Interface(unittest.TestCase):
    def test_as_it_stands_in_one_list(self):
        calls = [11, 5, 0, 1, 0, -10, 500, 1, 1000, -1, 100, 2, 0, 500, 10, 20, 7, 0, 20, 12, 6, 4, 41]
        told = [1, -11, 1, 0, 1, 0, 1, 0, 3, 2, 480, -619, 2, 1100, -1, 1, 10, 1, -16, 1, -22]
        self.assertEqual(answers(calls), told)

    def test_calls_have_their_numbers(self):
        self.assertEqual([NAMES.index(name) for name in BUILT], list(range(13)))
        self.assertEqual(answers([0, 2, 3, 0, 9, 5, 4, 4, 7, 8, 0]), [1, 0, 1, 2, 1, 3, 1, -2])

    def test_the_list_stays_as_it_was(self):
        calls = laid(list(PIPE) + probe())
        kept = list(calls)
        answers(calls)
        self.assertEqual(calls, kept)
        self.assertEqual(answers(Locked(calls)), answers(kept))

    def test_asking_twice(self):
        calls = laid(list(PIPE) + probe() + [("begin", 1, 1, 0, 1), ("piece", 1, 1, 100), ("mix", 2)])
        first = answers(calls)
        kept = list(first)
        self.assertEqual(answers([11, 5, 12, 6]), [1, -11, 1, -11, 1, -11])
        self.assertEqual(answers(calls), kept)
        self.assertEqual(first, kept)
        first.clear()
        self.assertEqual(answers(calls), kept)

    def test_answers_are_a_list_of_whole_numbers(self):
        told = answers(laid(list(PIPE) + probe()))
        self.assertIs(type(told), list)
        self.assertEqual({type(number) for number in told}, {int})

    def test_256_calls(self):
        calls = [PIPE[0]] + [("piece", 3000, 300, 1200)] * 255
        self.assertEqual(ask(*calls), [[0]] + [[number] for number in range(8)] + [[-28]] * 247)


if __name__ == "__main__":
    unittest.main()
