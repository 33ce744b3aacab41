"""What is said of every call: -11 ahead of a begin, refusals and looks change nothing, and the interface."""

import unittest

from sandpipe.pipe import answers
from tests.helper import LARGEST, NAMES, WRONG_SPEEDS, ask, laid, last, probe, seen_after

# Its speeds at which it goes end, below and above, at the most and at the least pressure.
PIPE = (
    ("begin", 3, 25, -46, 556), ("piece", 200, 35, 400), ("piece", 120, -61, 250), ("piece", 15, -250, 150),
    ("pump", 0, 610), ("pump", 1, 70), ("pump", 1, 45), ("on", 1, 0),
)
CALLS = {
    "begin": (3, 5, -5, 100), "piece": (5, 5, 500), "pump": (0, 5), "on": (0, 0), "mix": (5,), "grain": (5,),
    "cut": (), "loses": (0, 5), "settles": (0,), "gives": (0, 5), "pressures": (5,), "goes": (5,), "slowest": (),
    "fastest": (), "why": (5,), "blocks": (5,), "least": (5,), "most": (5,), "spare": (5,), "fewest": (5,),
    "richest": (5,), "farther": (5, 500), "flow": (5,), "look": (0,), "state": (),
}
# The calls that take a speed alone.
BY_SPEED = ("pressures", "goes", "why", "blocks", "least", "most", "spare", "fewest", "richest", "flow")


class NotBegun(unittest.TestCase):
    def test_every_call_but_begin(self):
        for name in NAMES[1:]:
            with self.subTest(name=name):
                # The begin behind it shows where the call ends.
                self.assertEqual(ask((name,) + CALLS[name], PIPE[0]), [[-11], [0]])

    def test_it_comes_ahead_of_every_other_refusal(self):
        for name in NAMES[1:]:
            with self.subTest(name=name):
                wrong = (LARGEST,) * len(CALLS[name])
                self.assertEqual(ask((name,) + wrong, PIPE[0]), [[-11], [0]])

    def test_all_of_them_behind_a_refused_begin(self):
        calls = [(name,) + CALLS[name] for name in NAMES[1:]]
        self.assertEqual(ask(("begin", 0, 0, 0, 1), *calls), [[-22]] + [[-11]] * 24)

    def test_nothing_is_left_of_what_came_ahead(self):
        ahead = [(name,) + CALLS[name] for name in NAMES[1:]]
        self.assertEqual(seen_after(*ahead, *PIPE), seen_after(*PIPE))

    def test_a_refused_begin_behind_one_that_answers_0(self):
        self.assertEqual(ask(("begin", 3, 5, 0, 1), ("begin", 0, 0, 0, 1), ("mix", 1)), [[0], [-22], [5]])


class Unchanged(unittest.TestCase):
    def other_pipes(self):
        """Pipes that differ from PIPE in one thing each."""
        yield (("begin", 4) + PIPE[0][2:],) + PIPE[1:]
        yield (("begin", 3, 26) + PIPE[0][3:],) + PIPE[1:]
        yield (("begin", 3, 25, -45, 556),) + PIPE[1:]
        yield (("begin", 3, 25, -46, 555),) + PIPE[1:]
        yield PIPE[:1] + (("piece", 201, 35, 400),) + PIPE[2:]
        yield PIPE[:1] + (("piece", 200, 36, 400),) + PIPE[2:]
        yield PIPE[:1] + (("piece", 200, 35, 399),) + PIPE[2:]
        yield PIPE[:4] + (("pump", 1, 610),) + PIPE[5:]
        yield PIPE[:4] + (("pump", 0, 611),) + PIPE[5:]
        yield PIPE[:7]
        yield PIPE + (("on", 2, 0),)
        yield PIPE + (("piece", 1, 1, 100),)
        yield PIPE + (("pump", 2, 1),)
        yield PIPE + (("cut",),)

    def test_the_probe_tells_pipes_apart(self):
        seen = seen_after(*PIPE)
        for number, other in enumerate(self.other_pipes()):
            with self.subTest(number=number):
                self.assertNotEqual(seen_after(*other), seen)

    def refused(self):
        yield from [("begin", 0, 7, -1, 9), ("begin", 10, 7, -1, 9), ("begin", 4, 41, -1, 9)]
        yield from [("begin", 4, 7, -101, 9), ("begin", 4, 7, 1, 9), ("begin", 4, 7, -1, 0), ("begin", 4, 7, -1, 3001)]
        yield from [("piece", 0, 5, 500), ("piece", 3001, 5, 500), ("piece", 5, -301, 500), ("piece", 5, 301, 500)]
        yield from [("piece", 5, 5, 99), ("piece", 5, 5, 1201)]
        yield from [("pump", 3, 5), ("pump", 0, 0), ("pump", 0, 1001)]
        yield from [("on", 3, 1), ("on", 0, 2), ("on", 1, 2), ("on", 0, 1), ("on", 1, 0)]
        yield from [("mix", 41), ("mix", LARGEST), ("grain", 0), ("grain", 10)]
        yield from [("loses", 3, 5), ("loses", 0, 0), ("loses", 0, 100), ("settles", 3)]
        yield from [("gives", 3, 5), ("gives", 0, 0), ("gives", 0, 100)]
        for name in BY_SPEED:
            yield from [(name, speed) for speed in WRONG_SPEEDS]
        yield from [("farther", 0, 500), ("farther", 100, 500), ("farther", 40, 99), ("farther", 40, 1201)]
        # At a speed of 5 it settles in all pieces, by whatever pumps, mixture or length.
        yield from [("spare", 5), ("fewest", 5), ("richest", 5), ("farther", 5, 500), ("look", 3), ("look", LARGEST)]

    def test_what_is_refused_changes_nothing(self):
        seen = seen_after(*PIPE)
        for call in self.refused():
            with self.subTest(call=call):
                answer = last(*PIPE, call)
                self.assertEqual(len(answer), 1)
                self.assertLess(answer[0], 0)
                self.assertEqual(seen_after(*PIPE, call), seen)

    def test_all_refused_together_change_nothing(self):
        self.assertEqual(seen_after(*PIPE, *self.refused()), seen_after(*PIPE))

    def test_too_many_and_a_pump_at_the_last_piece_change_nothing(self):
        full = (("begin", 1, 0, -10, 900),) + (("piece", 9, 1, 100),) * 8 + (("pump", 7, 150),) * 6
        rows = [(("piece", 9, 9, 900), -28), (("pump", 0, 9), -28), (("cut",), -16), (("farther", 40, 100), -28)]
        for call, answer in rows:
            with self.subTest(call=call):
                self.assertEqual(last(*full, call), [answer])
                self.assertEqual(seen_after(*full, call), seen_after(*full))

    def test_a_cut_of_nothing_and_no_speed_change_nothing(self):
        self.assertEqual(seen_after(PIPE[0], ("cut",), *PIPE[1:]), seen_after(*PIPE))
        stuck = (("begin", 3, 25, 0, 1), ("piece", 9, 9, 900))
        for name in ("slowest", "fastest"):
            self.assertEqual(last(*stuck, (name,)), [-33])
            self.assertEqual(seen_after(*stuck, (name,)), seen_after(*stuck))
        self.assertEqual(last(PIPE[0], ("flow", 40)), [-6])
        self.assertEqual(seen_after(PIPE[0], ("flow", 40), *PIPE[1:]), seen_after(*PIPE))

    def test_looking_changes_nothing(self):
        looks = [("loses", 0, 7), ("settles", 2), ("gives", 0, 7), ("gives", 1, 7), ("slowest",), ("fastest",),
                 ("farther", 40, 200), ("look", 0), ("look", 1), ("state",)]
        looks.extend([(name, speed) for name in BY_SPEED for speed in (7, 40)])
        seen = seen_after(*PIPE)
        for call in looks:
            with self.subTest(call=call):
                self.assertEqual(seen_after(*PIPE, call), seen)

    def test_trying_otherwise_leaves_pumps_mixture_and_pieces(self):
        # Each of these tries and finds something else than what stands.
        tried = [("fewest", 39), ("richest", 39), ("farther", 39, 200)]
        self.assertEqual(ask(*PIPE, *tried)[len(PIPE):], [[2, 3], [33], [98, 1]])
        looks = [("gives", pump, 1) for pump in range(3)] + [("state",), ("look", 2), ("look", 3), ("mix", 25)]
        told = [[610], [0], [45], [0, 3, 3, 3, 25, -46, 556, 335], [15, -250, 150], [-2], [25]]
        for call in tried:
            with self.subTest(call=call):
                self.assertEqual(ask(*PIPE, call, *looks)[len(PIPE) + 1:], told)
                # What is built behind it stands where it would have stood.
                self.assertEqual(ask(*PIPE, call, ("piece", 1, 1, 100), ("pump", 3, 1))[-2:], [[3], [3]])

    def test_looking_between_changes(self):
        looks = [("slowest",), ("fastest",), ("gives", 0, 9), ("loses", 0, 9), ("farther", 40, 200), ("look", 0), ("state",)]
        looks.extend([(name, 40) for name in BY_SPEED])
        between = []
        for call in PIPE:
            between.extend([call] + looks)
        self.assertEqual(seen_after(*between), seen_after(*PIPE))


def every_look():
    looks = [(name, speed) for name in BY_SPEED for speed in (17, 39, 41)]
    return looks + [("farther", 39, 200), ("farther", 41, 200), ("look", 1), ("state",)]


class Locked(list):
    """A list that can only be read."""

    def refuse(self, *told, **named):
        raise AssertionError("the list that is handed in was to be changed")

    append = extend = insert = pop = remove = clear = sort = reverse = refuse
    __setitem__ = __delitem__ = __iadd__ = __imul__ = refuse


class Interface(unittest.TestCase):
    def test_as_it_stands_in_one_list(self):
        calls = [11, 5, 0, 1, 0, -10, 500, 1, 1000, -1, 100, 2, 0, 500, 10, 20, 7, 0, 20, 12, 6, 4, 41]
        told = [1, -11, 1, 0, 1, 0, 1, 0, 3, 2, 480, -619, 2, 1100, -1, 1, 10, 1, -16, 1, -22]
        self.assertEqual(answers(calls), told)

    def test_calls_have_their_numbers(self):
        self.assertEqual(len(NAMES), 25)
        self.assertEqual(answers([0, 2, 3, 0, 9, 5, 4, 4, 7, 8, 0]), [1, 0, 1, 2, 1, 3, 1, -2])

    def test_every_call_as_it_stands_in_one_list(self):
        calls = [0, 3, 25, -46, 556, 1, 200, 35, 400, 1, 120, -61, 250, 1, 15, -250, 150]
        calls.extend([2, 0, 610, 2, 1, 70, 2, 1, 45, 3, 1, 0])
        built = [1, 0, 1, 0, 1, 1, 1, 2, 1, 0, 1, 1, 1, 2, 1, 0]
        calls.extend([13, 14, 39, 14, 41, 15, 17, 16, 39, 17, 39, 18, 39, 18, 41, 19, 39, 20, 39, 21, 39, 200, 22, 39])
        told = [1, 40, 2, 0, 0, 2, 2, 2, 3, 2, 0, 1, 2, 2, -9, 2, 0, 518, 2, 0, 304, 1, -33, 2, 2, 3, 1, 33, 2, 98, 1]
        told.extend([2, 65, 16])
        calls.extend([23, 0, 23, 1, 23, 2, 23, 3, 24])
        told.extend([4, 200, 35, 400, 0, 5, 120, -61, 250, 1, 2, 3, 15, -250, 150, 1, -2])
        told.extend([8, 0, 3, 3, 3, 25, -46, 556, 335])
        self.assertEqual(answers(calls), built + told)

    def test_the_list_stays_as_it_was(self):
        calls = laid(list(PIPE) + probe() + every_look())
        kept = list(calls)
        answers(calls)
        self.assertEqual(calls, kept)
        self.assertEqual(answers(Locked(calls)), answers(kept))

    def test_asking_twice(self):
        calls = laid(list(PIPE) + probe() + every_look() + [("begin", 1, 1, 0, 1), ("piece", 1, 1, 100), ("mix", 2)])
        first = answers(calls)
        kept = list(first)
        self.assertEqual(answers([11, 5, 12, 6]), [1, -11, 1, -11, 1, -11])
        self.assertEqual(answers(calls), kept)
        self.assertEqual(first, kept)
        first.clear()
        self.assertEqual(answers(calls), kept)

    def test_asking_twice_in_one_list(self):
        once = ask(*PIPE, *every_look())[len(PIPE):]
        self.assertEqual(ask(*PIPE, *every_look(), *every_look())[len(PIPE):], once + once)

    def test_answers_are_a_list_of_whole_numbers(self):
        told = answers(laid(list(PIPE) + probe() + every_look()))
        self.assertIs(type(told), list)
        self.assertEqual({type(number) for number in told}, {int})

    def test_256_calls(self):
        calls = [PIPE[0]] + [("piece", 3000, 300, 1200)] * 255
        self.assertEqual(ask(*calls), [[0]] + [[number] for number in range(8)] + [[-28]] * 247)


if __name__ == "__main__":
    unittest.main()
