"""The people's end: the map it was told, and the cells it tells the rover to keep out of."""

from roverhome.messages import HAD, KEEP_OUT, MOST_NUMBER, TICKS_APART, is_answer, is_seen, number_of, send
from roverhome.refusals import BAD_MESSAGE, BAD_VALUE, NO_NUMBER_LEFT, NOT_ANSWERED
from roverhome.ways import MOST_CELLS


class People:
    def __init__(self, width, height):
        self.size = width * height
        self.costs = [0] * self.size
        self.told = 0
        self.last_number = 0
        self.last_cell = 0
        self.last_answer = None
        self.ticks = 0

    def waits(self):
        """Whether there was a keep out and the last one isn't answered."""
        return self.last_number > 0 and self.last_answer is None

    def avoid(self, cell):
        if cell >= self.size:
            return [BAD_VALUE]
        if self.waits():
            return [NOT_ANSWERED]
        if self.last_number == MOST_NUMBER:
            return [NO_NUMBER_LEFT]
        self.last_number = self.last_number + 1
        self.last_cell = cell
        self.last_answer = None
        return [self.last_number] + self.send_keep_out()

    def send_keep_out(self):
        return send(KEEP_OUT, self.last_number, self.last_cell, 0)

    def hear(self, m):
        if is_seen(m, self.size):
            return [0] + self.hear_seen(number_of(m), m[4], m[5])
        if is_answer(m):
            self.hear_answer(number_of(m), m[4])
            return [0]
        return [BAD_MESSAGE]

    def hear_seen(self, number, cell, cost):
        if number == self.told + 1:
            self.told = number
            self.costs[cell] = cost
        if number > self.told:
            return []
        # Had may have been lost, so it's sent again of what was told long ago too.
        return send(HAD, number, 0, 0)

    def hear_answer(self, number, said):
        if number == self.last_number and self.last_answer is None:
            self.last_answer = said

    def tick(self):
        self.ticks = self.ticks + 1
        if self.ticks % TICKS_APART != 0 or not self.waits():
            return [0]
        return [0] + self.send_keep_out()

    def whole_map(self):
        return [self.told] + self.costs + [0] * (MOST_CELLS - self.size)

    def state(self):
        said = 0
        if self.last_answer is not None:
            said = 1 + self.last_answer
        return [0, self.told, self.last_number, self.last_cell, said]
