"""The rover: what it knows, where it goes, what it hears and sends."""

from roverhome.messages import ANSWER, NO, SEEN, TICKS_APART, YES, is_had, is_keep_out, number_of, send
from roverhome.refusals import BAD_MESSAGE
from roverhome.ways import all_neighbours, lightest, second_cell, taken, weight

# What rv_step answers.
LOOKED = 1
TO_GOAL = 2
TO_HOME = 3
FILLED = 4
NOTHING = 0

# How it's told behind an answer what was done.
SAW = 0
WENT = 1
CHARGED = 2


class Rover:
    def __init__(self, width, height, home, room, ground):
        self.size = width * height
        self.beside = all_neighbours(width, height)
        self.ground = ground[:self.size]
        self.home = home
        self.room = room
        self.costs = [0] * self.size
        self.place = home
        self.left = room
        self.been = [cell == home for cell in range(self.size)]
        self.kept_out = [False] * self.size
        self.seen = []
        self.had = 0
        self.last_number = 0
        self.last_answer = NO
        self.ticks = 0

    def step(self):
        unknown = self.unknown_in_sight()
        if unknown:
            return [LOOKED] + self.look(unknown)
        weights = self.weigh()
        home_sums = lightest(weights, self.beside, self.home)
        goal = self.choose_goal(weights, home_sums)
        if goal is not None:
            goal_sums = lightest(weights, self.beside, goal)
            return [TO_GOAL] + self.go(second_cell(weights, self.beside, goal_sums, self.place))
        if self.place != self.home:
            return [TO_HOME] + self.go(second_cell(weights, self.beside, home_sums, self.place))
        if self.left < self.room:
            self.left = self.room
            return [FILLED, CHARGED]
        return [NOTHING]

    def unknown_in_sight(self):
        in_sight = sorted(set(self.beside[self.place] + [self.home]))
        return [cell for cell in in_sight if self.costs[cell] == 0]

    def look(self, cells):
        done = []
        for cell in cells:
            self.costs[cell] = self.ground[cell]
            self.seen.append(cell)
            done.extend([SAW, cell, self.costs[cell]])
            if len(self.seen) == self.had + 1:
                done.extend(self.send_seen())
        return done

    def weigh(self):
        return [weight(self.costs[cell], self.kept_out[cell]) for cell in range(self.size)]

    def choose_goal(self, weights, home_sums):
        """The goal to go to, or None; home_sums are the lightest ways' between home and each cell."""
        place_sums = lightest(weights, self.beside, self.place)
        best = None
        best_there = 0
        for cell in range(self.size):
            if self.been[cell] or place_sums[cell] == 0 or home_sums[cell] == 0:
                continue
            there = taken(place_sums[cell], weights[self.place])
            back = taken(home_sums[cell], weights[cell])
            if there + back <= self.left and (best is None or there < best_there):
                best = cell
                best_there = there
        return best

    def go(self, cell):
        self.place = cell
        self.left = self.left - self.costs[cell]
        self.been[cell] = True
        return [WENT, cell]

    def send_seen(self):
        """Sends seen of the first cell that isn't known to be had, if there's one."""
        if self.had == len(self.seen):
            return []
        cell = self.seen[self.had]
        return send(SEEN, self.had + 1, cell, self.costs[cell])

    def hear(self, m):
        if is_keep_out(m, self.size):
            return [0] + self.hear_keep_out(number_of(m), m[4])
        if is_had(m):
            return [0] + self.hear_had(number_of(m))
        return [BAD_MESSAGE]

    def hear_keep_out(self, number, cell):
        if number == self.last_number + 1:
            self.last_number = number
            self.last_answer = NO
            if self.can_keep_out(cell):
                self.last_answer = YES
                self.kept_out[cell] = True
        if number != self.last_number:
            return []
        return send(ANSWER, number, self.last_answer, 0)

    def can_keep_out(self, cell):
        if cell == self.home or cell == self.place:
            return False
        weights = self.weigh()
        weights[cell] = 0
        home_sums = lightest(weights, self.beside, self.home)
        # As long as home's cost isn't known no way leads there, so this refuses then too.
        if home_sums[self.place] == 0:
            return False
        return taken(home_sums[self.place], weights[self.place]) <= self.left

    def hear_had(self, number):
        if number != self.had + 1 or number > len(self.seen):
            return []
        self.had = number
        return self.send_seen()

    def tick(self):
        self.ticks = self.ticks + 1
        if self.ticks % TICKS_APART != 0:
            return [0]
        return [0] + self.send_seen()

    def state(self):
        return [0, self.place, self.left, len(self.seen), self.had, self.last_number, self.been.count(True)]
