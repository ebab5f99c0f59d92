"""One crossing: its streams, the group that began last, and what was in colour since."""

from crossgreen.streams import NUMBERS, Stream, are_allowed, bits_of

RINGS = 4
GROUPS = 8
MOST_STREAMS = 16


def has_allowed_streams(n, numbers):
    """Tell whether n streams of ten numbers each make a crossing."""
    if n < 1 or n > MOST_STREAMS:
        return False
    for number in range(n):
        if not are_allowed(numbers[number * NUMBERS:(number + 1) * NUMBERS]):
            return False
    return True


class Crossing:
    """A crossing as it stands between two steps."""

    def __init__(self, n, numbers):
        self.streams = []
        for number in range(n):
            self.streams.append(Stream(number, numbers[number * NUMBERS:(number + 1) * NUMBERS]))
        self.group = GROUPS - 1
        # Ring by ring: the stream that was in colour last since the group began, or None.
        self.latest = [None] * RINGS

    def begin_group(self, group):
        self.group = group
        self.latest = [None] * RINGS

    def give_green(self, stream):
        stream.become_green()
        self.latest[stream.ring] = stream

    def in_colour(self, ring):
        """Give the ring's stream that is in colour, or None."""
        # Whatever is in colour became so since the group began: a group begins on red rings alone.
        stream = self.latest[ring]
        if stream is not None and stream.is_in_colour():
            return stream
        return None

    def is_all_red(self):
        for ring in range(RINGS):
            if self.in_colour(ring) is not None:
                return False
        return True

    def greens(self):
        return [stream for stream in self.streams if stream.is_green()]

    def is_stuck(self, stream):
        """Tell whether its ring has gone past a stream of this group, so that it waits for the next round."""
        if stream.group != self.group or self.in_colour(stream.ring) is not None:
            return False
        last = self.latest[stream.ring]
        return last is not None and last.number >= stream.number

    def lights(self):
        """Give the streams that are green, that are yellow, whose people walk, whose people clear."""
        return [
            bits_of(self.greens()),
            bits_of([stream for stream in self.streams if stream.is_yellow()]),
            bits_of([stream for stream in self.streams if stream.people_walk()]),
            bits_of([stream for stream in self.streams if stream.people_clear()]),
        ]

    def remembered(self):
        """Give the streams whose cars are remembered, and those whose buttons are."""
        return [
            bits_of([stream for stream in self.streams if stream.car_kept]),
            bits_of([stream for stream in self.streams if stream.button_kept]),
        ]
