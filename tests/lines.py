"""Builds lines of calls and reads their answers, for all the tests."""

from crossgreen.crossings import answers

NAMES = ("ring", "group", "least", "gap", "most", "yellow", "red", "walk", "clear", "mode")
PLAIN = {
    "ring": 0, "group": 0, "least": 1, "gap": 0, "most": 36000,
    "yellow": 1, "red": 0, "walk": 0, "clear": 0, "mode": 0,
}
ALWAYS = 1
TILL_MOST = 2
KEEPS_CARS = 4


def stream(**numbers):
    """The ten numbers of a stream: those that are named, the others plain, most as much as there may be."""
    whole = dict(PLAIN)
    whole.update(numbers)
    return [whole[name] for name in NAMES]


def bits(places):
    return sum(1 << place for place in places)


def begin(*streams, crossing=0):
    numbers = [number for one in streams for number in one]
    return [0, crossing, len(streams), len(numbers)] + numbers


def begin_without_streams(n, crossing=0):
    return [0, crossing, n, 0]


def step(cars=(), people=(), first=-1, crossing=0):
    return [1, crossing, bits(cars), bits(people), first]


def calls(crossing=0):
    return [2, crossing]


def ask(*line):
    """The answers of a line, a list for each call."""
    given = answers([number for call in line for number in call])
    split = []
    while given:
        size = given[0]
        if size < 1 or len(given) < 1 + size:
            raise AssertionError("an answer has not as many numbers as it tells")
        split.append(given[1:1 + size])
        given = given[1 + size:]
    if len(split) != len(line):
        raise AssertionError("not one answer a call")
    return split


def sign(place, green, yellow, walk, clear):
    """One stream's light: G green, W and people walk, C and people clear, Y yellow, . red, ? none of these."""
    lit = tuple((lights >> place) & 1 for lights in (green, yellow, walk, clear))
    signs = {(1, 0, 0, 0): "G", (1, 0, 1, 0): "W", (1, 0, 0, 1): "C", (0, 1, 0, 0): "Y", (0, 0, 0, 0): "."}
    return signs.get(lit, "?")


def picture(answer, n):
    """A step's answer as a text of n signs, stream 0 ahead."""
    if answer[0] != 0 or len(answer) != 5:
        raise AssertionError("no answer of a step: " + repr(answer))
    return "".join(sign(place, *answer[1:]) for place in range(n))


def pictures(streams, steps):
    """What the lights show after each of the steps on a crossing that has just begun."""
    given = ask(begin(*streams), *steps)
    return " ".join(picture(answer, len(streams)) for answer in given[1:])
