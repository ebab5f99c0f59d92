"""One step of a crossing: calls, clocks, ends and beginnings, in this order."""

from crossgreen.crossing import GROUPS, RINGS
from crossgreen.streams import YELLOW, cross, of_one_ring_and_group


class Step:
    """A step under way: the crossing, the cars and buttons of now, the first stream or None."""

    def __init__(self, crossing, cars, people, first):
        self.crossing = crossing
        self.cars = cars
        self.people = people
        self.first = first
        self.called = []

    def run(self):
        self.hear_calls()
        self.run_clocks()
        self.end_colours()
        self.begin_greens()

    def has_car(self, stream):
        return (self.cars >> stream.number) & 1 == 1

    def has_button(self, stream):
        return (self.people >> stream.number) & 1 == 1

    def is_first(self, stream):
        return self.first is not None and self.first.number == stream.number

    def is_crossed_by_first(self, stream):
        return self.first is not None and cross(self.first, stream)

    def hear_calls(self):
        # Who is called holds for the whole step: what changes colour later in it asks for nothing new.
        for stream in self.crossing.streams:
            stream.hear(self.has_car(stream), self.has_button(stream))
            if stream.is_called(self.has_car(stream)) or self.is_first(stream):
                self.called.append(stream)

    def is_pressed(self):
        """Tell whether the green streams keep a called one waiting."""
        greens = self.crossing.greens()
        if len(greens) == 0:
            return False
        for stream in self.called:
            if self.crossing.is_stuck(stream):
                return True
            for green in greens:
                if cross(stream, green):
                    return True
        return False

    def run_clocks(self):
        pressed = self.is_pressed()
        for stream in self.crossing.streams:
            stream.run_clock()
            if stream.is_green():
                stream.run_gap(self.has_car(stream))
                if pressed:
                    stream.waited += 1
                if self.is_crossed_by_first(stream):
                    stream.end_walk()

    def is_ready(self, stream):
        if self.is_first(stream):
            return False
        if self.is_crossed_by_first(stream):
            return stream.people_are_done()
        return stream.may_end()

    def heir(self, stream):
        """Give the stream that follows this one in its ring and group, or None."""
        if self.is_crossed_by_first(stream):
            if of_one_ring_and_group(self.first, stream):
                return self.first
            return None
        for other in self.called:
            if other.number > stream.number and of_one_ring_and_group(other, stream):
                return other
        return None

    def end_colours(self):
        for stream in self.crossing.streams:
            stream.end_yellow_and_clearing()
        all_over = True
        for stream in self.crossing.streams:
            if stream.is_in_colour():
                ready = not stream.is_green() or self.is_ready(stream)
                has_heir = self.heir(stream) is not None
                if not ready or has_heir:
                    all_over = False
                if stream.is_green() and ready and has_heir:
                    stream.take_colour(YELLOW)
        if all_over and self.is_pressed():
            for stream in self.crossing.greens():
                stream.take_colour(YELLOW)

    def begin_greens(self):
        # Asked ahead of the rings: what becomes green here doesn't let another ring begin.
        some_green = len(self.crossing.greens()) > 0
        for ring in range(RINGS):
            if self.crossing.in_colour(ring) is None:
                self.begin_in_ring(ring, some_green)
        if self.crossing.is_all_red() and len(self.called) > 0:
            self.begin_next_group()

    def begin_in_ring(self, ring, some_green):
        last = self.crossing.latest[ring]
        if last is not None:
            self.give_green(self.heir(last))
        elif some_green:
            self.give_green(self.first_called(ring))

    def give_green(self, stream):
        if stream is not None:
            self.crossing.give_green(stream)

    def first_called(self, ring):
        """Give the first called stream of the ring and of the group that began last, or None."""
        for stream in self.called:
            if stream.ring == ring and stream.group == self.crossing.group:
                if not self.is_crossed_by_first(stream):
                    return stream
        return None

    def next_group(self):
        if self.first is not None:
            return self.first.group
        behind = self.crossing.group + 1
        # How far behind the next group lies, round the ring of groups: this one comes last.
        distance = min([(stream.group - behind) % GROUPS for stream in self.called])
        return (behind + distance) % GROUPS

    def begin_next_group(self):
        self.crossing.begin_group(self.next_group())
        for ring in range(RINGS):
            self.give_green(self.first_called(ring))
