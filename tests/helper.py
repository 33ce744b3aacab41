"""Calls by their names, and answers taken apart, for all tests."""

from sandpipe.pipe import answers

NAMES = (
    "begin", "piece", "pump", "on", "mix", "grain", "cut", "loses", "settles", "gives", "pressures", "goes",
    "slowest", "fastest", "why", "blocks", "least", "most", "spare", "fewest", "richest", "farther", "flow",
    "look", "state",
)
LARGEST = 4294967295
HIGHEST = 2147483647
LOWEST = -2147483648
WRONG_SPEEDS = (0, 100, 101, LARGEST)


def laid(calls):
    """The calls, each ("name", number, ...), laid in one list as the interface tells it."""
    numbers = []
    for call in calls:
        numbers.append(NAMES.index(call[0]))
        numbers.extend(call[1:])
    return numbers


def taken_apart(numbers):
    apart = []
    place = 0
    while place < len(numbers):
        behind = place + 1 + numbers[place]
        if behind > len(numbers):
            raise AssertionError("an answer is shorter than its count tells")
        apart.append(numbers[place + 1:behind])
        place = behind
    return apart


def ask(*calls):
    """The answers, a list for each call."""
    apart = taken_apart(answers(laid(calls)))
    if len(apart) != len(calls):
        raise AssertionError("not one answer for each call")
    return apart


def last(*calls):
    return ask(*calls)[-1]


def probe():
    """Looking calls by whose answers two pipes that differ in anything are told apart."""
    calls = [("state",), ("pressures", 37), ("slowest",), ("fastest",)]
    for piece in range(9):
        calls.extend([("loses", piece, 37), ("loses", piece, 99), ("settles", piece), ("look", piece)])
    calls.extend([("gives", pump, 37) for pump in range(7)])
    calls.extend([("goes", speed) for speed in range(1, 100)])
    return calls


def seen_after(*calls):
    """What the probe is answered behind these calls."""
    return ask(*calls, *probe())[len(calls):]
