"""What holds of every line: streams that cross never go together, and each light keeps its times."""

import unittest

from tests.lines import ask, begin, calls, sign, step

STREAMS = 10
STEPS = 300


class Numbers:
    """A row of numbers that looks like chance and is the same each time."""

    def __init__(self, seed):
        self.state = seed * 7919 + 17

    def below(self, bound):
        self.state = (self.state * 1103515245 + 12345) % 2147483648
        return (self.state >> 12) % bound

    def some_of(self, n, out_of):
        return [place for place in range(n) if self.below(out_of) == 0]


def some_stream(numbers):
    least = 1 + numbers.below(5)
    most = least + numbers.below(9)
    times = [1 + numbers.below(3), numbers.below(3), numbers.below(2) * numbers.below(5), numbers.below(5)]
    mode = numbers.below(8) if numbers.below(3) == 0 else 4 * numbers.below(2)
    return [numbers.below(4), numbers.below(3), least, numbers.below(4), most] + times + [mode]


def some_line(seed):
    """The streams of a crossing, and for each step its cars, buttons and first."""
    numbers = Numbers(seed)
    streams = [some_stream(numbers) for number in range(STREAMS)]
    steps = []
    first = -1
    for number in range(STEPS):
        if numbers.below(6) == 0:
            first = numbers.below(STREAMS) if numbers.below(4) == 0 else -1
        steps.append((numbers.some_of(STREAMS, 5), numbers.some_of(STREAMS, 9), first))
    return streams, steps


def parts_of(colours):
    """The text split where the sign changes."""
    parts = []
    for colour in colours:
        if parts and parts[-1][0] == colour:
            parts[-1] += colour
        else:
            parts.append(colour)
    return parts


def cross(one, other):
    return one[0] == other[0] or one[1] != other[1]


class Safety(unittest.TestCase):
    def setUp(self):
        self.runs = []
        for seed in range(30):
            streams, steps = some_line(seed)
            line = [begin(*streams)] + [step(*one) for one in steps]
            self.runs.append((streams, steps, ask(*line)[1:]))

    def colours(self, given, place):
        """One stream's lights, step by step."""
        return "".join(sign(place, *answer[1:]) for answer in given)

    def test_every_light_is_one_of_those_that_there_are(self):
        for streams, steps, given in self.runs:
            for place in range(STREAMS):
                self.assertNotIn("?", self.colours(given, place))
            self.assertEqual([bits for answer in given for bits in answer if bits >> STREAMS], [])

    def test_streams_that_cross_never_go_together(self):
        for streams, steps, given in self.runs:
            for answer in given:
                going = [place for place in range(STREAMS) if ((answer[1] | answer[2]) >> place) & 1]
                for one in going:
                    for other in going:
                        self.assertTrue(one == other or not cross(streams[one], streams[other]))

    def test_yellow_lasts_its_time_and_follows_green(self):
        for streams, steps, given in self.runs:
            for place in range(STREAMS):
                parts = parts_of(self.colours(given, place).replace("W", "G").replace("C", "G"))
                for number, part in enumerate(parts):
                    if number > 0:
                        self.assertEqual(part[0] == "Y", parts[number - 1][0] == "G")
                    if part[0] == "Y" and number < len(parts) - 1:
                        self.assertEqual(len(part), streams[place][5])

    def test_red_lasts_its_time_before_one_that_crosses_goes(self):
        for streams, steps, given in self.runs:
            dark_since = [None] * STREAMS
            was_lit = 0
            for now, answer in enumerate(given):
                lit = answer[1] | answer[2]
                for place in range(STREAMS):
                    if (was_lit >> place) & 1 and not (lit >> place) & 1:
                        dark_since[place] = now
                for place in range(STREAMS):
                    if (lit >> place) & 1 and not (was_lit >> place) & 1:
                        for other in range(STREAMS):
                            if dark_since[other] is not None and cross(streams[place], streams[other]):
                                self.assertGreaterEqual(now - dark_since[other], streams[other][6])
                was_lit = lit

    def test_people_have_their_whole_clear(self):
        for streams, steps, given in self.runs:
            for place in range(STREAMS):
                clear = streams[place][8]
                parts = parts_of(self.colours(given, place))
                for part, behind in zip(parts, parts[1:]):
                    if part[0] == "W":
                        self.assertTrue(behind[0] == "C" or clear == 0)
                    if part[0] == "C":
                        self.assertEqual(len(part), clear)

    def test_without_first_green_lasts_its_least_and_people_walk_their_walk(self):
        for seed in range(20):
            streams, steps = some_line(seed)
            given = ask(begin(*streams), *[step(cars, people) for cars, people, first in steps])[1:]
            for place in range(STREAMS):
                colours = self.colours(given, place)
                for part in parts_of(colours)[:-1]:
                    if part[0] == "W":
                        self.assertEqual(len(part), streams[place][7])
                for part in parts_of(colours.replace("W", "G").replace("C", "G"))[:-1]:
                    if part[0] == "G":
                        self.assertGreaterEqual(len(part), streams[place][2])

    def test_the_runs_hold_every_light(self):
        seen = set()
        for streams, steps, given in self.runs:
            for place in range(STREAMS):
                seen = seen | set(self.colours(given, place))
        self.assertEqual(seen, set("GWCY."))

    def test_what_is_remembered_is_of_streams_that_remember(self):
        for seed in range(10):
            streams, steps = some_line(seed)
            line = [begin(*streams)]
            for one in steps[:150]:
                line = line + [step(*one), calls()]
            given = ask(*line)
            for place, numbers in enumerate(streams):
                for lights, kept in zip(given[1::2], given[2::2]):
                    if (kept[1] >> place) & 1:
                        self.assertTrue(numbers[9] >= 4 and not (lights[1] >> place) & 1)
                    if (kept[2] >> place) & 1:
                        self.assertTrue(numbers[7] > 0 and not (lights[3] >> place) & 1)


if __name__ == "__main__":
    unittest.main()
