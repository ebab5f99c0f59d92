"""The interface: one list of numbers in, one list of numbers out, and two crossings each by itself."""

import unittest

from crossgreen.crossings import answers
from tests.lines import ALWAYS, KEEPS_CARS, ask, begin, begin_without_streams, calls, step, stream

TWO_STREAMS = [
    0, 1, 2, 20,
    0, 0, 2, 0, 5, 1, 0, 3, 1, 4,
    0, 0, 1, 0, 5, 1, 0, 0, 0, 1,
]


class Form(unittest.TestCase):
    def test_each_answer_stands_behind_how_many_numbers_it_has(self):
        handed = TWO_STREAMS + [1, 1, 0, 0, -1] + [2, 1] + [2, 0] + [1, 1, 2, 1, 1] + [1, 1, 0, 0, 2] + [0, 1, 0, 0]
        self.assertEqual(answers(handed), [
            1, 0,
            5, 0, 1, 0, 1, 0,
            3, 0, 0, 0,
            1, -9,
            5, 0, 1, 0, 0, 1,
            1, -2,
            1, -2,
        ])

    def test_one_call(self):
        self.assertEqual(answers([2, 0]), [1, -9])
        self.assertEqual(answers([1, 1, 0, 0, -1]), [1, -9])
        self.assertEqual(answers([0, 0, -5, 0]), [1, -2])
        self.assertEqual(answers(TWO_STREAMS), [1, 0])

    def test_numbers_are_plain_whole_numbers_in_a_plain_list(self):
        given = answers(TWO_STREAMS + [1, 1, 3, 3, 1, 2, 1, 2, 0])
        self.assertIs(type(given), list)
        self.assertEqual([number for number in given if type(number) is not int], [])

    def test_what_is_handed_in_stays(self):
        handed = TWO_STREAMS + [1, 1, 3, 3, 1, 2, 1, 2, 0] + [0, 1, 17, 0]
        copied = list(handed)
        answers(handed)
        self.assertEqual(handed, copied)

    def test_nothing_is_kept_from_one_time_to_the_next(self):
        handed = TWO_STREAMS + [1, 1, 3, 3, 1, 2, 1]
        self.assertEqual(answers(handed), answers(handed))
        self.assertEqual(answers([2, 1, 1, 1, 0, 0, -1]), [1, -9, 1, -9])

    def test_a_given_list_is_the_callers(self):
        first = answers(TWO_STREAMS)
        first.append(7)
        self.assertEqual(answers(TWO_STREAMS), [1, 0])

    def test_400_calls(self):
        streams = [stream(mode=ALWAYS), stream(mode=ALWAYS)]
        given = ask(begin(*streams), *[step()] * 399)
        turn = [[0, 1, 0, 0, 0], [0, 0, 1, 0, 0], [0, 2, 0, 0, 0], [0, 0, 2, 0, 0]]
        self.assertEqual(given[1:], (turn * 100)[:399])

    def test_180_whole_crossings(self):
        streams = [stream(ring=number % 4, group=number // 2) for number in range(16)]
        self.assertEqual(ask(*[begin(*streams)] * 180), [[0]] * 180)


class Crossings(unittest.TestCase):
    def test_a_begin_begins_its_own_crossing_alone(self):
        self.assertEqual(ask(begin(stream()), calls(crossing=1), step(crossing=1)), [[0], [-9], [-9]])
        self.assertEqual(ask(begin(stream(), crossing=1), calls(), step()), [[0], [-9], [-9]])

    def test_each_has_its_own_number_of_streams(self):
        line = [begin(stream()), begin(stream(), stream(), crossing=1)]
        line = line + [step(first=1), step(first=1, crossing=1), step(first=2, crossing=1)]
        self.assertEqual(ask(*line), [[0], [0], [-2], [0, 2, 0, 0, 0], [-2]])

    def lines(self):
        """Two lines, each on a crossing of its own, of as many calls."""
        one = [
            begin(stream(mode=ALWAYS, walk=2), stream(mode=KEEPS_CARS)), step(), calls(), step(cars=[1]),
            step(people=[0]), begin_without_streams(0), step(first=1), step(), calls(), step(first=2), step(),
        ]
        other = [
            calls(crossing=1), begin(stream(ring=3), stream(ring=2, walk=4, clear=1), crossing=1),
            step(cars=[0], crossing=1), step(crossing=1), step(first=0, crossing=1), step(people=[1], crossing=1),
            calls(crossing=1), step(first=-3, crossing=1), step(crossing=1), calls(crossing=1),
            begin(stream(group=4), crossing=1),
        ]
        return one, other

    def test_side_by_side_each_answers_as_by_itself(self):
        one, other = self.lines()
        mixed = []
        for place in range(len(one)):
            mixed = mixed + [one[place], other[place]]
        given = ask(*mixed)
        self.assertEqual(given[::2], ask(*one))
        self.assertEqual(given[1::2], ask(*other))

    def test_one_behind_the_other(self):
        one, other = self.lines()
        self.assertEqual(ask(*(one + other)), ask(*one) + ask(*other))
        self.assertEqual(ask(*(other + one)), ask(*other) + ask(*one))

    def test_both_answer_alike(self):
        one = self.lines()[0]
        moved = [[call[0], 1] + call[2:] for call in one]
        self.assertEqual(ask(*moved), ask(*one))


if __name__ == "__main__":
    unittest.main()
