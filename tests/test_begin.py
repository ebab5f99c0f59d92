"""Promise 1: begin."""

import unittest

from tests.lines import NAMES, ask, begin, begin_without_streams, calls, picture, step, stream

LEAST_NUMBER = -2147483648
MOST_NUMBER = 2147483647

# For each number of a stream the lowest and the highest that it may have, where most allows every least.
BOUNDS = {
    "ring": (0, 3), "group": (0, 7), "least": (1, 6000), "gap": (0, 6000), "most": (1, 36000),
    "yellow": (1, 1000), "red": (0, 1000), "walk": (0, 6000), "clear": (0, 6000), "mode": (0, 7),
}


class BeginAnswers(unittest.TestCase):
    def test_one_stream(self):
        self.assertEqual(ask(begin(stream())), [[0]])

    def test_sixteen_streams(self):
        self.assertEqual(ask(begin(*[stream() for number in range(16)])), [[0]])

    def test_every_number_of_streams_shows_in_what_may_be_first(self):
        for n in range(1, 17):
            given = ask(begin(*[stream() for number in range(n)]), step(first=n), step(first=n - 1))
            self.assertEqual(given[:2], [[0], [-2]])
            self.assertEqual(given[2][:2], [0, 1 << (n - 1)])

    def test_lowest_and_highest_of_each_number_are_allowed(self):
        for name in NAMES:
            for number in BOUNDS[name]:
                with self.subTest(name=name, number=number):
                    self.assertEqual(ask(begin(stream(**{name: number}))), [[0]])

    def test_below_and_above_each_bound_is_refused(self):
        for name in NAMES:
            lowest, highest = BOUNDS[name]
            for number in (lowest - 1, highest + 1, LEAST_NUMBER, MOST_NUMBER):
                with self.subTest(name=name, number=number):
                    self.assertEqual(ask(begin(stream(**{name: number})), calls()), [[-2], [-9]])

    def test_all_modes(self):
        for mode in range(8):
            self.assertEqual(ask(begin(stream(mode=mode))), [[0]])
        for mode in (8, 9, 15, 16, -8, -1):
            self.assertEqual(ask(begin(stream(mode=mode))), [[-2]])

    def test_most_is_least_or_more(self):
        self.assertEqual(ask(begin(stream(least=7, most=7))), [[0]])
        self.assertEqual(ask(begin(stream(least=6000, most=6000))), [[0]])
        self.assertEqual(ask(begin(stream(least=7, most=6))), [[-2]])
        self.assertEqual(ask(begin(stream(least=6000, most=5999))), [[-2]])

    def test_no_other_two_numbers_bound_each_other(self):
        odd = stream(least=1, gap=6000, most=1, yellow=1000, red=1000, walk=0, clear=6000)
        self.assertEqual(ask(begin(odd)), [[0]])

    def test_one_wrong_stream_among_many(self):
        for place in range(16):
            streams = [stream() for number in range(16)]
            streams[place] = stream(yellow=0)
            self.assertEqual(ask(begin(*streams)), [[-2]])

    def test_n_below_and_above(self):
        for n in (0, 17, -1, 18, 160, LEAST_NUMBER, MOST_NUMBER):
            self.assertEqual(ask(begin_without_streams(n)), [[-2]])


class BeginStartsAnew(unittest.TestCase):
    def test_a_refused_begin_begins_nothing(self):
        given = ask(begin_without_streams(0), step(), calls(), begin(stream(gap=-1)), step(first=5), calls())
        self.assertEqual(given, [[-2], [-9], [-9], [-2], [-9], [-9]])

    def test_a_refused_begin_changes_nothing(self):
        streams = [stream(mode=1, least=2, yellow=2), stream(mode=1, walk=3)]
        whole = begin(*streams)
        steps = [step(people=[1]), step(), step(), step(), calls(), step(), step(), calls(), step()]
        refused = [begin(stream(), stream(ring=4)), begin_without_streams(17), begin_without_streams(0)]
        among = [whole]
        for one in steps:
            among = among + refused + [one]
        undisturbed = ask(whole, *steps)
        disturbed = ask(*among)
        self.assertEqual(disturbed[::4], undisturbed)
        for place in range(1, 4):
            self.assertEqual(disturbed[place::4], [[-2]] * len(steps))

    def test_a_second_begin_starts_anew(self):
        old = [begin(stream(group=2), stream(mode=4)), step(cars=[0]), step(cars=[1]), step()]
        new = [begin(stream(mode=1, walk=2), stream(mode=5)), calls(), step(), step(), step(people=[0]), calls()]
        self.assertEqual(ask(*(old + new))[4:], ask(*new))

    def test_a_second_begin_puts_the_lights_out(self):
        line = [begin(stream()), step(cars=[0]), begin(stream()), step()]
        self.assertEqual([picture(answer, 1) for answer in ask(*line)[1::2]], ["G", "."])

    def test_a_second_begin_forgets_which_group_was_on(self):
        streams = [stream(group=0, mode=1), stream(group=1, mode=1)]
        line = [begin(*streams), step(), begin(*streams), step()]
        self.assertEqual([picture(answer, 2) for answer in ask(*line)[1::2]], ["G.", "G."])

    def test_at_first_the_group_is_seven(self):
        # So group 0 comes next, and 7 last of all.
        self.assertEqual(picture(ask(begin(stream(group=7, mode=1), stream(group=0, mode=1)), step())[1], 2), ".G")
        self.assertEqual(picture(ask(begin(stream(group=7, mode=1), stream(group=6, mode=1)), step())[1], 2), ".G")
        self.assertEqual(picture(ask(begin(stream(group=7, mode=1), stream(group=6)), step())[1], 2), "G.")

    def test_at_first_nothing_is_in_colour(self):
        self.assertEqual(ask(begin(stream(), stream(ring=1)), step())[1], [0, 0, 0, 0, 0])

    def test_at_first_buttons_and_cars_are_remembered(self):
        streams = [stream(), stream(walk=1), stream(mode=4), stream(mode=7, walk=6000), stream(mode=3, clear=9)]
        self.assertEqual(ask(begin(*streams), calls())[1], [0, 0b01100, 0b01010])

    def test_what_is_remembered_at_first_calls(self):
        self.assertEqual(picture(ask(begin(stream(), stream(walk=2)), step())[1], 2), ".W")
        self.assertEqual(picture(ask(begin(stream(), stream(mode=4)), step())[1], 2), ".G")


if __name__ == "__main__":
    unittest.main()
