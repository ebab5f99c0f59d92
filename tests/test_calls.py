"""Promise 3: calls, and what is remembered."""

import unittest

from tests.lines import ALWAYS, KEEPS_CARS, TILL_MOST, ask, begin, calls, step, stream


def remembered(streams, steps):
    """What is remembered at first and after each of the steps, as pairs of bits: cars, buttons."""
    line = [begin(*streams), calls()]
    for one in steps:
        line = line + [one, calls()]
    return [tuple(answer[1:]) for answer in ask(*line)[1::2]]


class CallsAnswers(unittest.TestCase):
    def test_before_the_first_begin(self):
        self.assertEqual(ask(calls(), calls(crossing=1)), [[-9], [-9]])

    def test_two_numbers_of_bits(self):
        streams = [stream(walk=1), stream(mode=KEEPS_CARS), stream(walk=9, mode=KEEPS_CARS)]
        self.assertEqual(ask(begin(*streams), calls())[1], [0, 0b110, 0b101])

    def test_the_last_of_sixteen_streams(self):
        streams = [stream() for number in range(15)] + [stream(walk=1, mode=KEEPS_CARS)]
        self.assertEqual(ask(begin(*streams), calls())[1], [0, 32768, 32768])

    def test_nothing_remembered(self):
        self.assertEqual(ask(begin(stream(clear=3)), calls())[1], [0, 0, 0])

    def test_asking_changes_nothing(self):
        streams = [stream(walk=2, mode=KEEPS_CARS), stream(walk=1), stream(ring=1, mode=KEEPS_CARS)]
        steps = [step(), step(cars=[2]), step(people=[0, 1]), step(cars=[0, 2]), step(), step(people=[0]), step()]
        asked = [begin(*streams)]
        for one in steps:
            asked = asked + [calls(), calls(), one]
        given = ask(*asked)
        self.assertEqual(given[3::3], ask(begin(*streams), *steps)[1:])
        self.assertEqual(given[1::3], given[2::3])


class Buttons(unittest.TestCase):
    def test_forgotten_as_it_becomes_green(self):
        self.assertEqual(remembered([stream(walk=2)], [step()]), [(0, 1), (0, 0)])

    def test_only_of_streams_that_have_walk(self):
        for mode in range(8):
            streams = [stream(walk=2), stream(), stream(walk=0, clear=5, mode=mode & KEEPS_CARS), stream(walk=1)]
            given = remembered(streams, [step(people=[0, 1, 2, 3])])
            self.assertEqual([pair[1] for pair in given], [0b1001, 0b1000])

    def test_not_while_its_people_walk(self):
        streams = [stream(walk=3, clear=2)]
        given = remembered(streams, [step()] + [step(people=[0])] * 3)
        self.assertEqual(given, [(0, 1), (0, 0), (0, 0), (0, 0), (0, 0)])

    def test_while_its_people_clear(self):
        streams = [stream(walk=1, clear=2)]
        given = remembered(streams, [step(), step(people=[0]), step(people=[0]), step()])
        self.assertEqual(given, [(0, 1), (0, 0), (0, 0), (0, 1), (0, 1)])

    def test_on_a_green_where_nobody_was_let_go(self):
        streams = [stream(walk=1, mode=ALWAYS), stream()]
        steps = [step(), step(cars=[1]), step(cars=[1]), step(), step()]
        given = remembered(streams, steps + [step(people=[0])])
        self.assertEqual(given, [(0, 1), (0, 0), (0, 0), (0, 0), (0, 0), (0, 0), (0, 1)])

    def test_on_yellow_and_clearing_and_red(self):
        for steps_between in range(6):
            streams = [stream(walk=5, yellow=2, red=2), stream(ring=1, group=1, mode=ALWAYS, least=9)]
            steps = [step()] * (6 + steps_between) + [step(people=[0]), step()]
            pressed = remembered(streams, steps)
            self.assertEqual([pair[1] for pair in pressed[-2:]], [1, 1])

    def test_till_it_becomes_green_again(self):
        streams = [stream(walk=1), stream(mode=ALWAYS, least=4)]
        steps = [step(), step(), step(), step(people=[0]), step(), step(), step(), step()]
        given = remembered(streams, steps)
        self.assertEqual([pair[1] for pair in given], [1, 0, 0, 0, 1, 1, 1, 1, 0])

    def test_forgotten_even_where_mode_alone_lets_people_go(self):
        streams = [stream(walk=1, mode=TILL_MOST)]
        self.assertEqual(remembered(streams, [step()]), [(0, 1), (0, 0)])

    def test_several_at_once(self):
        streams = [stream(mode=ALWAYS, least=99, most=99)] + [stream(walk=1, group=group) for group in (1, 2, 3)]
        given = remembered(streams, [step(people=[1]), step(people=[3])])
        self.assertEqual([pair[1] for pair in given], [0b1110] * 3)


class Cars(unittest.TestCase):
    def test_forgotten_as_it_becomes_green(self):
        self.assertEqual(remembered([stream(mode=KEEPS_CARS)], [step()]), [(1, 0), (0, 0)])
        self.assertEqual(remembered([stream(mode=KEEPS_CARS)], [step(cars=[0])]), [(1, 0), (0, 0)])

    def test_only_where_mode_says_so(self):
        for mode in range(8):
            streams = [stream(mode=ALWAYS, least=9, most=9), stream(mode=mode)]
            given = remembered(streams, [step(), step(cars=[0, 1])])
            kept = 0b10 if mode >= 4 else 0
            self.assertEqual(given, [(kept, 0)] * 3)

    def test_not_while_green(self):
        given = remembered([stream(mode=KEEPS_CARS)], [step()] + [step(cars=[0])] * 3)
        self.assertEqual(given, [(1, 0), (0, 0), (0, 0), (0, 0), (0, 0)])

    def test_on_yellow_and_clearing_and_red(self):
        for steps_between in range(5):
            streams = [stream(mode=KEEPS_CARS, yellow=2, red=2), stream(ring=1, group=1, mode=ALWAYS, least=9)]
            steps = [step()] * (2 + steps_between) + [step(cars=[0]), step()]
            self.assertEqual(remembered(streams, steps)[-2:], [(1, 0), (1, 0)])

    def test_in_the_step_in_which_green_ends_it_is_still_green(self):
        streams = [stream(mode=KEEPS_CARS, least=1), stream(mode=ALWAYS)]
        self.assertEqual(remembered(streams, [step(), step(cars=[0]), step()]), [(1, 0), (0, 0), (0, 0), (0, 0)])

    def test_till_it_becomes_green_again(self):
        streams = [stream(mode=KEEPS_CARS), stream(mode=ALWAYS, least=3)]
        steps = [step(), step(), step(cars=[0]), step(), step(), step(), step()]
        given = remembered(streams, steps)
        self.assertEqual([pair[0] for pair in given], [1, 0, 0, 1, 1, 1, 1, 0])

    def test_cars_and_buttons_apart(self):
        streams = [stream(mode=ALWAYS, least=9, most=9), stream(mode=KEEPS_CARS), stream(walk=2)]
        given = remembered(streams, [step(), step(cars=[2], people=[1])])
        self.assertEqual(given, [(0b010, 0b100)] * 3)


if __name__ == "__main__":
    unittest.main()
