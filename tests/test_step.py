"""Promise 2: step, without a stream that comes first."""

import unittest

from tests.lines import ALWAYS, KEEPS_CARS, TILL_MOST, ask, begin, calls, pictures, step, stream

LEAST_NUMBER = -2147483648
MOST_NUMBER = 2147483647
ALL_BITS = 4294967295


class StepAnswers(unittest.TestCase):
    def test_four_numbers_of_bits(self):
        streams = [
            stream(ring=0, walk=2, clear=3), stream(ring=1, walk=1, clear=3), stream(ring=2), stream(ring=0),
        ]
        given = ask(begin(*streams), step(cars=[2]), step(cars=[2]), step(), step(cars=[3]), step(), step(cars=[3]))
        self.assertEqual(given, [
            [0],
            [0, 0b0111, 0, 0b0011, 0],
            [0, 0b0111, 0, 0b0001, 0b0010],
            [0, 0b0111, 0, 0, 0b0011],
            [0, 0b0111, 0, 0, 0b0011],
            [0, 0b0111, 0, 0, 0b0001],
            [0, 0b0110, 0b0001, 0, 0],
        ])

    def test_the_last_of_sixteen_streams(self):
        streams = [stream() for number in range(15)] + [stream(ring=3, group=7, mode=TILL_MOST, walk=1, clear=1)]
        given = ask(begin(*streams), step(), step(), step(), step(cars=[0]), step(cars=[0], first=0))
        self.assertEqual(given[1:], [
            [0, 32768, 0, 32768, 0], [0, 32768, 0, 0, 32768],
            [0, 32768, 0, 0, 0], [0, 32768, 0, 0, 0], [0, 0, 32768, 0, 0],
        ])

    def test_before_the_first_begin(self):
        self.assertEqual(ask(step(), step(cars=range(32), people=range(32), first=0)), [[-9], [-9]])

    def test_before_the_first_begin_comes_before_a_wrong_first(self):
        for first in (-2, 16, LEAST_NUMBER, MOST_NUMBER):
            self.assertEqual(ask(step(first=first), begin(stream(ring=4)), step(first=first)), [[-9], [-2], [-9]])

    def test_first_is_a_stream_or_none(self):
        for n in (1, 2, 15, 16):
            streams = [stream() for number in range(n)]
            for first in (-1, 0, n - 1):
                self.assertEqual(ask(begin(*streams), step(first=first))[1][0], 0)
            for first in (-2, n, n + 1, 32, LEAST_NUMBER, MOST_NUMBER):
                self.assertEqual(ask(begin(*streams), step(first=first))[1], [-2])

    def test_a_refused_step_changes_nothing(self):
        streams = [stream(walk=2, clear=1, least=3, gap=2), stream(mode=KEEPS_CARS, walk=1), stream(ring=1)]
        whole = begin(*streams)
        steps = [step(cars=[0, 2]), step(people=[0]), step(cars=[1]), calls(), step(), step(), step(), calls(), step()]
        refused = [step(cars=range(32), people=range(32), first=3), step(cars=[2], people=[1], first=-2)]
        among = [whole]
        for one in steps:
            among = among + refused + [one]
        disturbed = ask(*among)
        self.assertEqual(disturbed[::3], ask(whole, *steps))
        self.assertEqual(disturbed[1::3] + disturbed[2::3], [[-2]] * (2 * len(steps)))

    def test_bits_of_streams_that_are_not_there_say_nothing(self):
        streams = [stream(mode=KEEPS_CARS, walk=1), stream(ring=1, mode=KEEPS_CARS, walk=1)]
        plain = [begin(*streams), step(), calls(), step(), step(), calls()]
        beyond = ALL_BITS - 3
        noisy = [begin(*streams)]
        for call in plain[1:]:
            noisy.append([1, 0, beyond, beyond, -1] if call[0] == 1 else call)
        self.assertEqual(ask(*noisy), ask(*plain))
        self.assertEqual(ask(begin(stream()), [1, 0, ALL_BITS - 1, ALL_BITS, -1])[1], [0, 0, 0, 0, 0])
        self.assertEqual(ask(begin(stream()), [1, 0, ALL_BITS, ALL_BITS, -1])[1], [0, 1, 0, 0, 0])


class Called(unittest.TestCase):
    def test_nobody_called(self):
        self.assertEqual(pictures([stream(), stream(ring=1)], [step()] * 4), ".. .. .. ..")

    def test_always_called(self):
        for mode in (1, 2, 3, 5, 6, 7):
            self.assertEqual(pictures([stream(mode=mode)], [step()] * 3), "G G G")

    def test_a_car_calls_while_it_stands_there(self):
        line = [step(), step(cars=[1]), step(), step()]
        self.assertEqual(pictures([stream(), stream()], line), ".. .G .G .G")

    def test_a_car_that_left_calls_no_more(self):
        streams = [stream(mode=ALWAYS, least=3), stream()]
        line = [step(), step(cars=[1]), step(), step(), step()]
        self.assertEqual(pictures(streams, line), "G. G. G. G. G.")

    def test_a_remembered_car_calls(self):
        streams = [stream(mode=ALWAYS, least=3), stream(mode=KEEPS_CARS, ring=1, group=1)]
        first_round = "G. G. G. Y. .G .Y G. G. G. "
        # The car of the first round is remembered from the beginning; behind that round none is.
        self.assertEqual(pictures(streams, [step()] * 10), first_round + "G.")
        line = [step()] * 6 + [step(cars=[1])] + [step()] * 4
        self.assertEqual(pictures(streams, line), first_round + "Y. .G")
        streams[1] = stream(ring=1, group=1)
        self.assertEqual(pictures(streams, [step(cars=[1])] + [step()] * 4), "G. G. G. G. G.")

    def test_a_car_on_green_does_not_call(self):
        streams = [stream(), stream(ring=1, group=1, mode=ALWAYS)]
        line = [step(cars=[0])] * 7
        # Stream 0 is pressed by 1, and 1 by 0's car only when 0 isn't green.
        self.assertEqual(pictures(streams, line), "G. Y. .G .Y G. Y. .G")
        self.assertEqual(pictures([stream(), stream(ring=1)], [step(cars=[0])] * 3 + [step()]), "G. G. G. G.")

    def test_a_car_on_yellow_and_clearing_calls(self):
        streams = [stream(yellow=2, red=2), stream(ring=1, group=1)]
        line = [step(cars=[0]), step(cars=[1]), step(), step(), step(), step(cars=[0])]
        self.assertEqual(pictures(streams, line), "G. Y. Y. .. .. G.")
        self.assertEqual(pictures(streams, line[:5] + [step(), step(cars=[0])]), "G. Y. Y. .. .. .. G.")

    def test_a_button_calls_where_people_walk(self):
        line = [step(people=[0]), step(), step(people=[1])]
        self.assertEqual(pictures([stream(), stream(ring=1, walk=0)], line), ".. .. ..")
        streams = [stream(mode=ALWAYS, walk=1), stream(walk=1)]
        line = [step()] * 7 + [step(people=[1])] + [step()] * 2
        # Both buttons are remembered at first; afterwards only 0 is called, till 1's button is pressed.
        self.assertEqual(pictures(streams, line), "W. Y. .W .Y G. G. G. Y. .W .Y")

    def test_a_button_on_green_calls_its_own_stream_again(self):
        streams = [stream(walk=1, clear=2), stream(ring=1, group=1)]
        line = [step(), step(), step(people=[0]), step(cars=[1]), step(), step()]
        self.assertEqual(pictures(streams, line), "W. C. C. Y. W. C.")


class Clocks(unittest.TestCase):
    def test_two_streams_of_a_ring_take_turns(self):
        streams = [stream(mode=ALWAYS, least=2, yellow=2, red=1), stream(mode=ALWAYS, least=2, yellow=2, red=1)]
        self.assertEqual(pictures(streams, [step()] * 11), "G. G. Y. Y. .. .G .G .Y .Y .. G.")

    def test_red_of_none(self):
        streams = [stream(mode=ALWAYS, yellow=2, red=0), stream(mode=ALWAYS, yellow=1, red=0)]
        self.assertEqual(pictures(streams, [step()] * 8), "G. Y. Y. .G .Y G. Y. Y.")

    def test_each_stream_has_its_own_yellow_and_red(self):
        streams = [stream(mode=ALWAYS, yellow=3, red=1), stream(mode=ALWAYS, yellow=1, red=3)]
        self.assertEqual(pictures(streams, [step()] * 11), "G. Y. Y. Y. .. .G .Y .. .. .. G.")

    def test_least(self):
        streams = [stream(least=4), stream(mode=ALWAYS)]
        self.assertEqual(pictures(streams, [step(cars=[0])] + [step()] * 5), "G. G. G. G. Y. .G")

    def test_gap_runs_from_the_beginning(self):
        streams = [stream(gap=3), stream(mode=ALWAYS)]
        self.assertEqual(pictures(streams, [step(cars=[0])] + [step()] * 4), "G. G. G. Y. .G")

    def test_a_car_gives_the_gap_anew(self):
        streams = [stream(gap=3, most=9), stream(mode=ALWAYS)]
        line = [step(cars=[0]), step(), step(cars=[0])] + [step()] * 4
        self.assertEqual(pictures(streams, line), "G. G. G. G. G. Y. .G")

    def test_another_streams_car_does_not_give_the_gap_anew(self):
        streams = [stream(gap=3, most=9), stream(mode=ALWAYS)]
        line = [step(cars=[0])] + [step(cars=[1])] * 4
        self.assertEqual(pictures(streams, line), "G. G. G. Y. .G")

    def test_gap_of_none_ends_with_a_car_there(self):
        streams = [stream(gap=0, least=2), stream(mode=ALWAYS)]
        self.assertEqual(pictures(streams, [step(cars=[0])] * 4), "G. G. Y. .G")

    def test_the_gaps_rest_does_not_fall_below_none(self):
        streams = [stream(gap=2, most=9), stream(ring=1, group=1)]
        line = [step(cars=[0])] + [step()] * 5 + [step(cars=[0])] + [step(cars=[1])] * 3
        self.assertEqual(pictures(streams, line), "G. G. G. G. G. G. G. G. Y. .G")

    def test_most_ends_a_green_that_cars_keep(self):
        streams = [stream(gap=3, most=4), stream(mode=ALWAYS)]
        self.assertEqual(pictures(streams, [step(cars=[0])] * 6), "G. G. G. G. Y. .G")

    def test_waited_counts_only_the_pressed_steps(self):
        streams = [stream(gap=9, most=3), stream()]
        line = [step(cars=[0])] * 5 + [step(cars=[0, 1])] * 2 + [step(cars=[0])] * 4 + [step(cars=[0, 1])]
        self.assertEqual(pictures(streams, line), "G. " * 11 + "Y.")

    def test_waited_begins_anew_with_each_green(self):
        streams = [stream(gap=9, most=2), stream(gap=9, most=3)]
        line = [step(cars=[0, 1])] * 9
        self.assertEqual(pictures(streams, line), "G. G. Y. .G .G .G .Y G. G.")

    def test_all_greens_wait_when_one_of_them_is_crossed(self):
        # 3 is of ring 0: it crosses 0 alone, but 1 of ring 1 waits as long.
        streams = [stream(least=4), stream(ring=1, gap=9, most=3), stream(ring=1), stream()]
        line = [step(cars=[0, 1])] + [step(cars=[1, 3])] * 2 + [step(cars=[1, 2, 3])]
        self.assertEqual(pictures(streams, line), "GG.. GG.. GG.. GY..")

    def test_till_most(self):
        for mode in (2, 3):
            streams = [stream(mode=mode, most=4), stream(mode=ALWAYS)]
            self.assertEqual(pictures(streams, [step()] * 6), "G. G. G. G. Y. .G")
            self.assertEqual(pictures([stream(mode=mode, most=2)], [step()] * 6), "G G G G G G")


class People(unittest.TestCase):
    def test_walk_then_clear(self):
        streams = [stream(walk=3, clear=2), stream(ring=1, mode=ALWAYS)]
        self.assertEqual(pictures(streams, [step()] * 7), "WG WG WG CG CG GG GG")

    def test_a_green_does_not_end_before_walk_and_clear(self):
        streams = [stream(walk=3, clear=2), stream(mode=ALWAYS)]
        self.assertEqual(pictures(streams, [step()] * 7), "W. W. W. C. C. Y. .G")

    def test_nor_by_most(self):
        streams = [stream(walk=3, clear=2, most=1, gap=9), stream(mode=ALWAYS)]
        self.assertEqual(pictures(streams, [step(cars=[0])] * 7), "W. W. W. C. C. Y. .G")

    def test_least_holds_behind_walk_and_clear(self):
        streams = [stream(walk=1, clear=1, least=4), stream(mode=ALWAYS)]
        self.assertEqual(pictures(streams, [step()] * 6), "W. C. G. G. Y. .G")

    def test_clear_of_none(self):
        streams = [stream(walk=2, clear=0), stream(mode=ALWAYS)]
        self.assertEqual(pictures(streams, [step()] * 4), "W. W. Y. .G")

    def test_people_are_let_go_by_a_button_alone(self):
        streams = [stream(walk=2, clear=1), stream(mode=ALWAYS)]
        line = [step()] * 5 + [step(cars=[0])] + [step(cars=[0])] * 3
        self.assertEqual(pictures(streams, line), "W. W. C. Y. .G .Y G. Y. .G")
        line = [step()] * 5 + [step(people=[0])] + [step()] * 5
        self.assertEqual(pictures(streams, line), "W. W. C. Y. .G .Y W. W. C. Y. .G")

    def test_a_button_in_the_very_step_of_becoming_green(self):
        streams = [stream(walk=2, clear=1), stream(mode=ALWAYS)]
        line = [step()] * 5 + [step(cars=[0]), step(people=[0]), step(), calls()]
        given = ask(begin(*streams), *line)
        self.assertEqual(given[7:], [[0, 0b01, 0, 0b01, 0], [0, 0b01, 0, 0b01, 0], [0, 0, 0]])

    def test_till_most_lets_people_go_without_a_button(self):
        streams = [stream(mode=TILL_MOST, walk=1, clear=1, most=1), stream(mode=ALWAYS)]
        self.assertEqual(pictures(streams, [step()] * 8), "W. C. Y. .G .Y W. C. Y.")

    def test_always_called_alone_does_not(self):
        streams = [stream(mode=ALWAYS, walk=1, clear=1, most=1), stream(mode=ALWAYS)]
        self.assertEqual(pictures(streams, [step()] * 8), "W. C. Y. .G .Y G. Y. .G")

    def test_till_most_without_walk_lets_nobody_go(self):
        streams = [stream(mode=TILL_MOST, walk=0, clear=3, most=1), stream(mode=ALWAYS)]
        self.assertEqual(pictures(streams, [step()] * 3), "G. Y. .G")

    def test_people_do_not_walk_on_yellow(self):
        streams = [stream(walk=3, clear=0, yellow=4, red=3), stream(ring=1, group=1, mode=ALWAYS)]
        self.assertEqual(pictures(streams, [step()] * 11), "W. W. W. Y. Y. Y. Y. .. .. .. .G")

    def test_nor_clear_on_yellow(self):
        streams = [stream(walk=1, clear=2, yellow=4, red=3), stream(ring=1, group=1, mode=ALWAYS)]
        self.assertEqual(pictures(streams, [step()] * 11), "W. C. C. Y. Y. Y. Y. .. .. .. .G")


class Pressed(unittest.TestCase):
    def test_unpressed_greens_rest(self):
        streams = [stream(), stream(ring=1), stream(ring=2)]
        self.assertEqual(pictures(streams, [step(cars=[0, 1])] + [step()] * 3), "GG. GG. GG. GG.")

    def test_by_another_group(self):
        streams = [stream(), stream(ring=1, group=1)]
        self.assertEqual(pictures(streams, [step(cars=[0]), step(), step(cars=[1]), step(cars=[1])]), "G. G. Y. .G")

    def test_by_one_ahead_in_its_ring(self):
        streams = [stream(), stream()]
        self.assertEqual(pictures(streams, [step(cars=[1]), step(), step(cars=[0]), step(cars=[0])]), ".G .G .Y G.")

    def test_not_by_another_ring_of_its_group(self):
        streams = [stream(), stream(ring=1)]
        self.assertEqual(pictures(streams, [step(cars=[0])] + [step(cars=[1])] * 3), "G. GG GG GG")

    def stuck(self, again, **numbers):
        """Ring 0 is left behind stream 0, as 1 called it away and went; then `again`; 2 is green in ring 1."""
        streams = [stream(red=1), stream(), stream(ring=1, **numbers)]
        return pictures(streams, [step(cars=[0, 2]), step(cars=[1]), step(), step()] + again)

    def test_a_ring_may_be_left_without_a_colour(self):
        self.assertEqual(self.stuck([step()] * 2), "G.G Y.G ..G ..G ..G ..G")

    def test_one_behind_is_not_stuck_but_begins(self):
        again = [step(cars=[1])] * 2
        self.assertEqual(self.stuck(again, gap=9), "G.G Y.G ..G ..G .GG .GG")

    def test_the_last_one_itself_is_stuck(self):
        again = [step(cars=[0])] * 2
        self.assertEqual(self.stuck(again), "G.G Y.G ..G ..G ..Y G..")

    def test_waited_counts_while_one_is_stuck(self):
        again = [step(cars=[0])] * 3
        # One pressed step by 1 ahead, then two by the stuck 0.
        self.assertEqual(self.stuck(again, mode=TILL_MOST, most=3), "G.G Y.G ..G ..G ..G ..Y G.G")

    def test_one_of_another_group_is_not_stuck_but_crosses(self):
        streams = [stream(red=1), stream(), stream(ring=1), stream(group=1)]
        line = [step(cars=[0, 2]), step(cars=[1]), step(), step(), step(cars=[3]), step(cars=[3])]
        self.assertEqual(pictures(streams, line), "G.G. Y.G. ..G. ..G. ..Y. ...G")

    def test_one_ahead_of_the_last_is_stuck(self):
        streams = [stream(), stream(), stream(), stream(ring=1)]
        line = [step(cars=[1, 3]), step(cars=[2]), step(), step(), step(cars=[0]), step(cars=[0])]
        self.assertEqual(pictures(streams, line), ".G.G .Y.G ...G ...G ...Y G...")

    def test_a_ring_may_be_red_only_since_this_step(self):
        streams = [stream(red=1), stream(), stream(ring=1, least=3)]
        line = [step(cars=[0, 2]), step(cars=[1]), step(cars=[0]), step(cars=[0]), step(cars=[0])]
        self.assertEqual(pictures(streams, line), "G.G Y.G ..G ..Y G..")

    def test_waited_does_not_count_a_ring_that_is_red_only_since_this_step(self):
        streams = [stream(red=1), stream(), stream(ring=1, mode=TILL_MOST, most=2)]
        line = [step(cars=[0, 2]), step(cars=[1])] + [step(cars=[0])] * 4
        self.assertEqual(pictures(streams, line), "G.G Y.G ..G ..G ..Y G.G")

    def test_a_ring_with_none_since_the_group_began_is_not_stuck(self):
        # 1 is called as 0 is ready: it begins beside it and doesn't press it.
        streams = [stream(), stream(ring=1)]
        self.assertEqual(pictures(streams, [step(cars=[0]), step(), step(cars=[1])]), "G. G. GG")


class Over(unittest.TestCase):
    def test_all_rings_end_together(self):
        streams = [stream(mode=ALWAYS), stream(mode=ALWAYS, ring=1, least=3), stream(mode=ALWAYS, group=1)]
        self.assertEqual(pictures(streams, [step()] * 5), "GG. GG. GG. YY. ..G")

    def test_the_slowest_red_holds_the_next_group(self):
        streams = [stream(mode=ALWAYS, yellow=1), stream(mode=ALWAYS, ring=1, yellow=2, red=2)]
        streams.append(stream(mode=ALWAYS, ring=2, group=1))
        self.assertEqual(pictures(streams, [step()] * 7), "GG. YY. .Y. ... ... ..G ..Y")

    def test_a_ring_goes_on_to_its_heir_while_another_is_green(self):
        streams = [stream(), stream(mode=ALWAYS), stream(mode=ALWAYS, ring=1)]
        self.assertEqual(pictures(streams, [step(cars=[0])] + [step()] * 3), "G.G Y.G .GG .GG")

    def test_a_ring_goes_on_to_its_heir_though_the_others_end(self):
        # In the third step 0 is red and stuck: 2 ends with all rings over, and 1 follows 0 all the same.
        streams = [stream(mode=ALWAYS), stream(mode=ALWAYS), stream(mode=ALWAYS, ring=1)]
        self.assertEqual(pictures(streams, [step()] * 5), "G.G Y.G .GY .Y. G.G")

    def over_in(self, cars, **numbers):
        """Stream 0 is on its way to red behind 1's call; 2 of ring 1 becomes ready in the third step, as 3 calls."""
        streams = [stream(**numbers), stream(), stream(ring=1, least=2), stream(ring=2, group=1)]
        return pictures(streams, [step(cars=[0, 2]), step(cars=[1]), step(cars=cars)])

    def test_yellow_without_an_heir_is_over(self):
        self.assertEqual(self.over_in([3], yellow=3), "G.G. Y.G. Y.Y.")

    def test_yellow_with_an_heir_is_not(self):
        self.assertEqual(self.over_in([1, 3], yellow=3), "G.G. Y.G. Y.G.")

    def test_clearing_without_an_heir_is_over(self):
        self.assertEqual(self.over_in([3], red=3), "G.G. Y.G. ..Y.")

    def test_clearing_with_an_heir_is_not(self):
        self.assertEqual(self.over_in([1, 3], red=3), "G.G. Y.G. ..G.")

    def test_red_is_over_even_where_its_last_one_has_an_heir(self):
        self.assertEqual(self.over_in([1, 3]), "G.G. Y.G. .GY.")

    def test_red_without_an_heir_is_over(self):
        self.assertEqual(self.over_in([3]), "G.G. Y.G. ..Y.")

    def test_a_ready_one_with_an_heir_is_not_over(self):
        streams = [stream(), stream(), stream(ring=1), stream(ring=2, group=1)]
        line = [step(cars=[0, 2]), step(cars=[1, 3])]
        self.assertEqual(pictures(streams, line), "G.G. Y.G.")

    def test_an_heir_must_be_of_its_ring_and_group(self):
        streams = [stream(), stream(ring=1), stream(group=1), stream(ring=1, least=3)]
        line = [step(cars=[0, 1])] + [step(cars=[2])] * 2
        self.assertEqual(pictures(streams, line), "GG.. YY.. ..G.")

    def test_the_nearest_called_one_behind_is_the_heir(self):
        streams = [stream(), stream(), stream(), stream()]
        line = [step(cars=[0]), step(cars=[2, 3]), step(cars=[2, 3]), step(cars=[3]), step(cars=[3]), step(cars=[1])]
        self.assertEqual(pictures(streams, line), "G... Y... ..G. ..Y. ...G ...Y")


class Beginnings(unittest.TestCase):
    def test_groups_follow_round(self):
        streams = [stream(group=group, mode=ALWAYS) for group in (5, 0, 3)]
        self.assertEqual(pictures(streams, [step()] * 8), ".G. .Y. ..G ..Y G.. Y.. .G. .Y.")

    def test_a_group_where_none_is_called_is_passed_by(self):
        streams = [stream(group=0, mode=ALWAYS), stream(group=3), stream(group=5, mode=ALWAYS)]
        self.assertEqual(pictures(streams, [step()] * 5), "G.. Y.. ..G ..Y G..")

    def test_this_group_comes_last(self):
        streams = [stream(group=3), stream(group=3), stream(group=2)]
        line = [step(cars=[0]), step(cars=[0, 1]), step(cars=[0, 2]), step(cars=[0]), step(cars=[0])]
        self.assertEqual(pictures(streams, line), "G.. Y.. ..G ..Y G..")
        line = [step(cars=[1]), step(cars=[0]), step(cars=[0])]
        self.assertEqual(pictures(streams, line), ".G. .Y. G..")

    def test_of_each_ring_the_first_called_one(self):
        streams = [stream(ring=ring) for ring in (3, 1, 0, 1, 0, 3, 2)]
        self.assertEqual(pictures(streams, [step(cars=[1, 3, 4, 5])]), ".G..GG.")
        self.assertEqual(pictures(streams, [step(cars=[0, 1, 2, 3, 4, 5, 6])]), "GGG...G")

    def test_no_stream_of_another_group_begins_beside(self):
        streams = [stream(ring=ring, group=ring) for ring in range(4)]
        line = [step(cars=range(4))] * 8
        self.assertEqual(pictures(streams, line), "G... Y... .G.. .Y.. ..G. ..Y. ...G ...Y")

    def test_a_group_begins_only_when_all_rings_are_red(self):
        streams = [stream(red=2), stream(ring=1, group=1, mode=ALWAYS)]
        self.assertEqual(pictures(streams, [step(cars=[0])] + [step()] * 4), "G. Y. .. .. .G")

    def test_a_ring_begins_later_beside_a_green(self):
        streams = [stream(), stream(ring=1), stream(ring=1), stream(ring=1, group=1)]
        line = [step(cars=[0]), step(), step(cars=[1, 2])]
        self.assertEqual(pictures(streams, line), "G... G... GG..")
        self.assertEqual(pictures(streams, line[:2] + [step(cars=[2])]), "G... G... G.G.")

    def test_not_where_the_greens_have_just_ended(self):
        streams = [stream(yellow=3), stream(ring=1), stream(group=1)]
        line = [step(cars=[0]), step(cars=[1, 2]), step(cars=[1, 2]), step(cars=[1, 2]), step(cars=[1, 2])]
        self.assertEqual(pictures(streams, line), "G.. Y.. Y.. Y.. ..G")

    def test_not_beside_one_that_begins_only_now(self):
        streams = [stream(), stream(), stream(ring=1)]
        line = [step(cars=[0]), step(cars=[1]), step(cars=[1, 2]), step(cars=[2])]
        self.assertEqual(pictures(streams, line), "G.. Y.. .G. .GG")

    def test_not_where_one_was_in_colour_since_the_group_began(self):
        streams = [stream(), stream(), stream(), stream(ring=1, gap=9)]
        line = [step(cars=[1, 3]), step(cars=[2, 3]), step(cars=[3]), step(cars=[0, 3]), step(cars=[2, 3])]
        self.assertEqual(pictures(streams, line), ".G.G .Y.G ...G ...G ..GG")

    def test_the_turn_begins_anew_with_the_group(self):
        streams = [stream(), stream(), stream(ring=1, mode=ALWAYS), stream(group=1)]
        line = [step(cars=[1]), step(cars=[3]), step(cars=[3]), step(cars=[2]), step(), step(cars=[0])]
        self.assertEqual(pictures(streams, line), ".GG. .YY. ...G ...Y ..G. G.G.")

    def test_nobody_called_leaves_all_red(self):
        streams = [stream(), stream(group=1)]
        line = [step(cars=[0]), step(cars=[1]), step(), step(), step(cars=[0])]
        self.assertEqual(pictures(streams, line), "G. Y. .. .. G.")


if __name__ == "__main__":
    unittest.main()
