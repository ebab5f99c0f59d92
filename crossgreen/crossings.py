"""The calls of a line on its two crossings, as one list of whole numbers."""

from crossgreen.crossing import Crossing, has_allowed_streams
from crossgreen.steps import Step

BEGIN = 0
STEP = 1

CROSSINGS = 2
NO_FIRST = -1

DONE = 0
NOT_ALLOWED = -2
NOT_BEGUN = -9


def begin(crossings, which, n, streams):
    """Begin a crossing anew and give what is answered."""
    if not has_allowed_streams(n, streams):
        return [NOT_ALLOWED]
    crossings[which] = Crossing(n, streams)
    return [DONE]


def step(crossing, cars, people, first):
    """Do a step on a crossing, or None before it has begun, and give what is answered."""
    if crossing is None:
        return [NOT_BEGUN]
    if first < NO_FIRST or first >= len(crossing.streams):
        return [NOT_ALLOWED]
    first_stream = None
    if first != NO_FIRST:
        first_stream = crossing.streams[first]
    Step(crossing, cars, people, first_stream).run()
    return [DONE] + crossing.lights()


def calls_of(crossing):
    """Give what is answered of the calls that a crossing, or None before it has begun, remembers."""
    if crossing is None:
        return [NOT_BEGUN]
    return [DONE] + crossing.remembered()


def answers(calls):
    """Carry out the calls one behind another; give each answer behind how many numbers it has."""
    crossings = [None] * CROSSINGS
    given = []
    at = 0
    while at < len(calls):
        which = calls[at + 1]
        if calls[at] == BEGIN:
            behind = at + 4 + calls[at + 3]
            answer = begin(crossings, which, calls[at + 2], calls[at + 4:behind])
        elif calls[at] == STEP:
            behind = at + 5
            answer = step(crossings[which], calls[at + 2], calls[at + 3], calls[at + 4])
        else:
            behind = at + 2
            answer = calls_of(crossings[which])
        given.append(len(answer))
        given.extend(answer)
        at = behind
    return given
