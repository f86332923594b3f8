"""The calls on one rover and one people's end, read from one list of numbers and answered in another."""

from roverhome.people import People
from roverhome.refusals import BAD_VALUE
from roverhome.rover import Rover
from roverhome.ways import sides_fit

RV_START = 0
RV_STEP = 1
RV_HEARD = 2
RV_TICK = 3
RV_STATE = 4
BS_START = 5
BS_AVOID = 6
BS_HEARD = 7
BS_TICK = 8
BS_MAP = 9
BS_STATE = 10

# By a call's number: how many numbers it has ahead of its row, that one counted.
PLAIN_LENGTHS = (5, 1, 1, 1, 1, 3, 2, 1, 1, 1, 1)

MOST_ROOM = 65535


class Line:
    """One rover and one people's end, each None until it's started."""

    def __init__(self):
        self.rover = None
        self.people = None

    def start_rover(self, width, height, home, room, ground):
        if not sides_fit(width, height) or home >= width * height:
            return [BAD_VALUE]
        if room < 1 or room > MOST_ROOM:
            return [BAD_VALUE]
        self.rover = Rover(width, height, home, room, ground)
        return [0]

    def start_people(self, width, height):
        if not sides_fit(width, height):
            return [BAD_VALUE]
        self.people = People(width, height)
        return [0]

    def answer(self, plain, row):
        """What's answered to a call; plain is its number and its whole numbers."""
        if plain[0] < BS_START:
            return self.answer_on_rover(plain, row)
        return self.answer_on_people(plain, row)

    def answer_on_rover(self, plain, row):
        call = plain[0]
        if call == RV_STEP:
            return self.rover.step()
        if call == RV_HEARD:
            return self.rover.hear(row)
        if call == RV_TICK:
            return self.rover.tick()
        if call == RV_STATE:
            return self.rover.state()
        return self.start_rover(plain[1], plain[2], plain[3], plain[4], row)

    def answer_on_people(self, plain, row):
        call = plain[0]
        if call == BS_AVOID:
            return self.people.avoid(plain[1])
        if call == BS_HEARD:
            return self.people.hear(row)
        if call == BS_TICK:
            return self.people.tick()
        if call == BS_MAP:
            return self.people.whole_map()
        if call == BS_STATE:
            return self.people.state()
        return self.start_people(plain[1], plain[2])


def has_row(call):
    return call == RV_START or call == RV_HEARD or call == BS_HEARD


def answers(calls):
    line = Line()
    given = []
    at = 0
    while at < len(calls):
        behind = at + PLAIN_LENGTHS[calls[at]]
        plain = calls[at:behind]
        row = []
        if has_row(plain[0]):
            row = calls[behind + 1:behind + 1 + calls[behind]]
            behind = behind + 1 + len(row)
        answer = line.answer(plain, row)
        given.append(len(answer))
        given.extend(answer)
        at = behind
    return given
