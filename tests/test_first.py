"""Promise 2: step, with a stream that comes first."""

import unittest

from tests.lines import ALWAYS, KEEPS_CARS, TILL_MOST, ask, begin, calls, pictures, step, stream


class FirstIsCalled(unittest.TestCase):
    def test_without_a_car(self):
        self.assertEqual(pictures([stream(), stream()], [step(), step(first=1), step()]), ".. .G .G")

    def test_stream_0(self):
        self.assertEqual(pictures([stream(), stream()], [step(first=0)]), "G.")

    def test_the_last_stream(self):
        streams = [stream(mode=ALWAYS) for number in range(16)]
        self.assertEqual(pictures(streams, [step(first=15)]), "." * 15 + "G")

    def test_only_for_the_step(self):
        streams = [stream(yellow=2), stream()]
        line = [step(cars=[0]), step(first=1), step(), step(), step()]
        self.assertEqual(pictures(streams, line), "G. Y. Y. .. ..")

    def test_it_presses(self):
        streams = [stream(), stream(ring=1, group=1)]
        self.assertEqual(pictures(streams, [step(cars=[0]), step(first=1), step(first=1)]), "G. Y. .G")

    def test_it_begins_beside_a_green_of_its_group(self):
        streams = [stream(mode=ALWAYS), stream(ring=1)]
        self.assertEqual(pictures(streams, [step(), step(first=1), step()]), "G. GG GG")

    def test_it_is_not_remembered(self):
        streams = [stream(mode=KEEPS_CARS), stream(mode=ALWAYS, least=9)]
        line = [step(), step(), step(), step(first=0), calls()]
        self.assertEqual(ask(begin(*streams), *line)[-1], [0, 0, 0])


class Ready(unittest.TestCase):
    def test_whom_it_crosses_ends_whatever_least_gap_and_waited_are(self):
        slow = {"least": 50, "gap": 50, "most": 50, "mode": TILL_MOST}
        for other in (stream(), stream(group=1), stream(ring=1, group=1)):
            streams = [stream(**slow), other]
            line = [step(cars=[0])] * 3 + [step(cars=[0], first=1)] * 2
            self.assertEqual(pictures(streams, line), "G. G. G. Y. .G")

    def test_whom_it_does_not_cross_goes_on(self):
        streams = [stream(least=50), stream(ring=1)]
        self.assertEqual(pictures(streams, [step(cars=[0])] + [step(first=1)] * 3), "G. GG GG GG")

    def test_whom_it_does_not_cross_ends_as_ever(self):
        streams = [stream(), stream(mode=ALWAYS), stream(ring=1)]
        self.assertEqual(pictures(streams, [step(cars=[0, 2])] + [step(first=2)] * 2), "G.G Y.G .GG")

    def test_first_itself_is_not_ready(self):
        streams = [stream(), stream(mode=ALWAYS), stream(mode=ALWAYS, ring=1, group=1)]
        line = [step(cars=[0])] + [step(first=0)] * 9 + [step()]
        self.assertEqual(pictures(streams, line), "G.. " * 10 + "Y..")

    def test_nor_beyond_its_most(self):
        streams = [stream(most=2, gap=9), stream(mode=ALWAYS)]
        line = [step(cars=[0])] + [step(cars=[0], first=0)] * 4 + [step(cars=[0])]
        self.assertEqual(pictures(streams, line), "G. G. G. G. G. Y.")

    def test_the_others_wait_for_first_while_it_is_green(self):
        streams = [stream(), stream(ring=1), stream(mode=ALWAYS, group=1)]
        line = [step(cars=[0, 1])] + [step(first=0)] * 3 + [step()]
        self.assertEqual(pictures(streams, line), "GG. GG. GG. GG. YY.")

    def test_yellow_and_red_keep_their_times(self):
        streams = [stream(least=9, yellow=2, red=2), stream(ring=1, group=1)]
        line = [step(cars=[0])] + [step(first=1)] * 6
        self.assertEqual(pictures(streams, line), "G. Y. Y. .. .. .G .G")


class People(unittest.TestCase):
    def test_walk_is_over_but_clear_is_kept(self):
        streams = [stream(walk=5, clear=3, least=50), stream()]
        line = [step(), step()] + [step(first=1)] * 5
        self.assertEqual(pictures(streams, line), "W. W. C. C. C. Y. .G")

    def test_in_one_step_alone(self):
        streams = [stream(walk=5, clear=3, least=6), stream()]
        line = [step(), step(first=1), step(), step(), step(), step(cars=[1])]
        self.assertEqual(pictures(streams, line), "W. C. C. C. G. Y.")

    def test_the_time_goes_on_from_walk(self):
        # Behind the cut the time is walk and more: least is reached the earlier.
        streams = [stream(walk=5, clear=1, least=7), stream()]
        line = [step(), step(first=1), step(cars=[1]), step(cars=[1])]
        self.assertEqual(pictures(streams, line), "W. C. G. Y.")

    def test_clear_is_not_begun_anew(self):
        streams = [stream(walk=2, clear=4), stream()]
        line = [step(), step(), step()] + [step(first=1)] * 4
        self.assertEqual(pictures(streams, line), "W. W. C. C. C. C. Y.")

    def test_the_last_step_of_walk(self):
        streams = [stream(walk=3, clear=1), stream()]
        self.assertEqual(pictures(streams, [step(), step(), step(), step(first=1), step(first=1)]), "W. W. W. C. Y.")
        self.assertEqual(pictures(streams, [step(), step(), step(first=1), step(first=1)]), "W. W. C. Y.")

    def test_clear_of_none_ends_at_once(self):
        streams = [stream(walk=5, clear=0), stream()]
        self.assertEqual(pictures(streams, [step(), step(first=1)]), "W. Y.")

    def test_of_whom_first_does_not_cross_people_walk_on(self):
        streams = [stream(walk=3, clear=1), stream(ring=1)]
        self.assertEqual(pictures(streams, [step()] + [step(first=1)] * 4), "W. WG WG CG GG")

    def test_of_first_itself_people_walk_on(self):
        streams = [stream(walk=3, clear=1), stream(ring=1, group=1)]
        self.assertEqual(pictures(streams, [step(first=0)] * 5), "W. W. W. C. G.")

    def test_a_stream_whose_people_were_not_let_go_has_no_walk_to_end(self):
        streams = [stream(walk=3, clear=3), stream(mode=ALWAYS)]
        line = [step()] * 8 + [step(cars=[0])] * 2 + [step(first=1)]
        self.assertEqual(pictures(streams, line), "W. W. W. C. C. C. Y. .G .Y G. Y.")


class Heir(unittest.TestCase):
    def test_first_is_the_heir_ahead_of_the_next_called(self):
        streams = [stream(), stream(mode=ALWAYS), stream()]
        line = [step(cars=[0])] + [step(first=2)] * 2
        self.assertEqual(pictures(streams, line), "G.. Y.. ..G")

    def test_first_is_the_heir_of_one_behind_it(self):
        # The group doesn't begin anew for it: 3 of ring 1 stays green.
        streams = [stream(), stream(), stream(mode=ALWAYS), stream(ring=1, gap=9)]
        line = [step(cars=[1, 3])] + [step(first=0)] * 3
        self.assertEqual(pictures(streams, line), ".G.G .Y.G G..G G..G")

    def test_none_is_where_first_is_of_another_group(self):
        # 0 is ready and 1 called behind it, but 0 waits till 2's people are off the road: all end together.
        streams = [stream(), stream(mode=ALWAYS), stream(ring=1, walk=2, clear=2), stream(ring=2, group=1)]
        line = [step(cars=[0])] + [step(first=3)] * 4
        self.assertEqual(pictures(streams, line), "G.W. G.C. G.C. Y.Y. ...G")
        self.assertEqual(pictures(streams, [step(cars=[0]), step()]), "G.W. Y.W.")

    def test_none_is_where_first_is_of_another_group_of_its_ring(self):
        streams = [stream(), stream(mode=ALWAYS), stream(group=1), stream(ring=1, gap=1)]
        line = [step(cars=[0, 3])] + [step(first=2)] * 2
        self.assertEqual(pictures(streams, line), "G..G Y..Y ..G.")

    def test_a_yellow_one_has_none_then_and_is_over(self):
        streams = [stream(yellow=3), stream(mode=ALWAYS), stream(ring=1, walk=2), stream(group=1)]
        line = [step(cars=[0]), step(), step(first=3), step(first=3), step(first=3)]
        self.assertEqual(pictures(streams, line), "G.W. Y.W. Y.Y. Y... ...G")

    def test_a_yellow_one_has_none_then_and_nobody_follows_it(self):
        streams = [stream(), stream(mode=ALWAYS), stream(ring=1, group=1)]
        line = [step(cars=[0]), step(), step(first=2)]
        self.assertEqual(pictures(streams, line), "G.. Y.. ..G")

    def test_of_first_itself_it_is_the_next_called(self):
        # 0 is yellow as it comes first: 1 follows it all the same, and is ended the next step.
        streams = [stream(), stream(mode=ALWAYS)]
        line = [step(cars=[0]), step()] + [step(first=0)] * 3
        self.assertEqual(pictures(streams, line), "G. Y. .G .Y G.")


class Stuck(unittest.TestCase):
    def left(self, again):
        """Ring 0 is left without a colour behind stream 1, which 0 called away as first; 2 is green in ring 1."""
        streams = [stream(), stream(), stream(ring=1)]
        return pictures(streams, [step(cars=[1, 2]), step(first=0), step()] + again)

    def test_left(self):
        self.assertEqual(self.left([step(), step()]), ".GG .YG ..G ..G ..G")

    def test_first_ahead_of_the_last_presses_and_follows(self):
        self.assertEqual(self.left([step(first=0)] * 2), ".GG .YG ..G G.Y G..")

    def test_first_that_was_the_last_itself_waits_for_the_next_group(self):
        self.assertEqual(self.left([step(first=1)] * 2), ".GG .YG ..G ..Y .G.")


class Beginnings(unittest.TestCase):
    def test_its_group_is_the_next(self):
        streams = [stream(group=group, mode=ALWAYS) for group in range(4)]
        self.assertEqual(pictures(streams, [step(first=2), step(), step()]), "..G. ..Y. ...G")
        self.assertEqual(pictures(streams, [step(), step(first=3), step(first=3)]), "G... Y... ...G")

    def test_even_its_group_again(self):
        streams = [stream(), stream(), stream(group=1, mode=ALWAYS)]
        # 0 is called away; as the lights go out, 1 of the group that was on comes first.
        line = [step(cars=[1]), step(), step(first=0)]
        self.assertEqual(pictures(streams, line), ".G. .Y. G..")
        line = [step(cars=[1]), step(), step(first=1)]
        self.assertEqual(pictures(streams, line), ".G. .Y. .G.")

    def test_those_it_does_not_cross_begin_with_it(self):
        streams = [
            stream(group=1, mode=ALWAYS), stream(group=1), stream(group=1, mode=ALWAYS),
            stream(group=1, ring=1, mode=ALWAYS), stream(group=1, ring=2), stream(group=0, ring=3, mode=ALWAYS),
        ]
        self.assertEqual(pictures(streams, [step(first=1)]), ".G.G..")
        self.assertEqual(pictures(streams, [step(first=2)]), "..GG..")
        self.assertEqual(pictures(streams, [step(first=4)]), "G..GG.")

    def test_in_a_ring_with_none_since_the_group_began(self):
        streams = [stream(mode=ALWAYS), stream(ring=1), stream(ring=1), stream(ring=2)]
        self.assertEqual(pictures(streams, [step(), step(cars=[1], first=2)]), "G... G.G.")
        self.assertEqual(pictures(streams, [step(), step(cars=[1, 2], first=1)]), "G... GG..")
        self.assertEqual(pictures(streams, [step(), step(cars=[1, 2], first=3)]), "G... GG.G")

    def test_none_that_it_crosses_begins_there(self):
        # 0 is still green as its people clear; 1 is called, but 2 of another group comes first.
        streams = [stream(walk=1, clear=3), stream(ring=1), stream(ring=2, group=1)]
        line = [step(), step(cars=[1], first=2), step(cars=[1], first=2), step(cars=[1])]
        self.assertEqual(pictures(streams, line), "W.. C.. C.. CG.")

    def test_first_of_another_group_does_not_begin_beside_a_green(self):
        streams = [stream(walk=1, clear=1), stream(ring=1, group=1)]
        line = [step()] + [step(first=1)] * 3
        self.assertEqual(pictures(streams, line), "W. C. Y. .G")


if __name__ == "__main__":
    unittest.main()
