"""One stream: its ten numbers, its colour, and the calls it remembers."""

RED = 0
GREEN = 1
YELLOW = 2
CLEARING = 3

ALWAYS_CALLED = 1
TILL_MOST = 2
KEEPS_CARS = 4

# In the order of a stream's numbers: ring, group, least, gap, most, yellow, red, walk, clear, mode.
LOWEST = (0, 0, 1, 0, 1, 1, 0, 0, 0, 0)
HIGHEST = (3, 7, 6000, 6000, 36000, 1000, 1000, 6000, 6000, 7)
NUMBERS = 10


def are_allowed(numbers):
    """Tell whether ten numbers make a stream."""
    for place in range(NUMBERS):
        if numbers[place] < LOWEST[place] or numbers[place] > HIGHEST[place]:
            return False
    least = numbers[2]
    most = numbers[4]
    return least <= most


def of_one_ring_and_group(one, other):
    """Tell whether two streams are of one ring and of one group."""
    return one.ring == other.ring and one.group == other.group


def cross(one, other):
    """Tell whether two streams cross; a stream doesn't cross itself."""
    if one.number == other.number:
        return False
    return one.ring == other.ring or one.group != other.group


def bits_of(streams):
    """Give the streams as the bits of one number."""
    bits = 0
    for stream in streams:
        bits = bits | (1 << stream.number)
    return bits


class Stream:
    """A stream with what it is and how it stands now."""

    def __init__(self, number, numbers):
        self.number = number
        self.ring = numbers[0]
        self.group = numbers[1]
        self.least = numbers[2]
        self.gap = numbers[3]
        self.most = numbers[4]
        self.yellow = numbers[5]
        self.red = numbers[6]
        self.walk = numbers[7]
        self.clearance = numbers[8]
        self.mode = numbers[9]
        self.colour = RED
        self.time = 0
        self.gap_rest = 0
        self.waited = 0
        self.let_go = False
        self.car_kept = self.keeps_cars()
        self.button_kept = self.walk > 0

    def is_always_called(self):
        return self.mode & (ALWAYS_CALLED | TILL_MOST) != 0

    def is_till_most(self):
        return self.mode & TILL_MOST != 0

    def keeps_cars(self):
        return self.mode & KEEPS_CARS != 0

    def is_green(self):
        return self.colour == GREEN

    def is_yellow(self):
        return self.colour == YELLOW

    def is_in_colour(self):
        return self.colour != RED

    # People have the road while it is green alone, though the time begins anew with the next colour.
    def people_walk(self):
        return self.is_green() and self.let_go and self.time < self.walk

    def people_clear(self):
        if not self.is_green() or not self.let_go:
            return False
        return self.walk <= self.time and self.time < self.walk + self.clearance

    def people_are_done(self):
        return not self.people_walk() and not self.people_clear()

    def hear(self, car, button):
        """Remember a button that is pressed and a car that stands there."""
        if button and self.walk > 0 and not self.people_walk():
            self.button_kept = True
        if car and self.keeps_cars() and not self.is_green():
            self.car_kept = True

    def is_called(self, car):
        """Tell whether it is called, but for being first."""
        if self.is_always_called() or self.car_kept or self.button_kept:
            return True
        return car and not self.is_green()

    def run_clock(self):
        if self.is_in_colour():
            self.time += 1

    def run_gap(self, car):
        if car:
            self.gap_rest = self.gap
        elif self.gap_rest > 0:
            self.gap_rest -= 1

    def end_walk(self):
        if self.people_walk():
            self.time = self.walk

    def may_end(self):
        """Tell whether a green one is ready by its own clocks."""
        if self.time < self.least or not self.people_are_done():
            return False
        if self.waited >= self.most:
            return True
        return self.gap_rest == 0 and not self.is_till_most()

    def take_colour(self, colour):
        self.colour = colour
        self.time = 0

    def become_green(self):
        self.take_colour(GREEN)
        self.gap_rest = self.gap
        self.waited = 0
        self.car_kept = False
        self.let_go = self.button_kept or (self.is_till_most() and self.walk > 0)
        self.button_kept = False

    def end_yellow_and_clearing(self):
        # Two ifs in this order: with red of 0 a stream is clearing and red again within one step.
        if self.is_yellow() and self.time >= self.yellow:
            self.take_colour(CLEARING)
        if self.colour == CLEARING and self.time >= self.red:
            self.take_colour(RED)
