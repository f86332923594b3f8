"""What the tests share: calls as numbers, answers split up, and a slow model of the document to compare with."""

import random

from roverhome.ground import answers

NEVER = 10 ** 9


# Calls, each a list of numbers.

def whole_ground(costs, behind=255):
    return list(costs) + [behind] * (256 - len(costs))


def rv_start(width, height, home, room, costs, behind=255):
    return [0, width, height, home, room, 256] + whole_ground(costs, behind)


STEP = [1]
TICK = [3]
STATE = [4]


def heard(m):
    return [2, len(m)] + list(m)


def bs_start(width, height):
    return [5, width, height]


# Messages.

def keep_out(number, cell):
    return [1, 0, number % 256, number // 256, cell, 0, 0, 0]


def had(number):
    return [2, 0, number % 256, number // 256, 0, 0, 0, 0]


def seen(number, cell, cost):
    return [3, 0, number % 256, number // 256, cell, cost, 0, 0]


def answered(number, yes):
    return [4, 0, number % 256, number // 256, yes, 0, 0, 0]


# Answers.

def joined(calls):
    return [number for call in calls for number in call]


def split(given):
    parts = []
    at = 0
    while at < len(given):
        parts.append(given[at + 1:at + 1 + given[at]])
        at += 1 + given[at]
    if at != len(given):
        raise AssertionError("the last count runs over the end")
    return parts


def told(*calls):
    """The answers to these calls, one list each."""
    parts = split(answers(joined(calls)))
    if len(parts) != len(calls):
        raise AssertionError(f"{len(calls)} calls, {len(parts)} answers")
    return parts


def done(answer):
    """What's told behind an answer's first number."""
    things = []
    at = 1
    while at < len(answer):
        length = {0: 3, 1: 2, 2: 1, 3: 9}[answer[at]]
        things.append(tuple(answer[at:at + length]))
        at += length
    return things


def steps_until_nothing(start, most=1900):
    """The answers of rv_step behind a start, up to and with the first 0."""
    given = told(start, *[STEP] * most)[1:]
    return given[:given.index([0]) + 1]


# Maps, worked out from columns and rows rather than from cell numbers.

def beside(width, height, cell):
    y, x = divmod(cell, width)
    around = [(x, y - 1), (x - 1, y), (x + 1, y), (x, y + 1)]
    return [width * b + a for a, b in around if 0 <= a < width and 0 <= b < height]


def far(width, height, costs, home, homeward):
    """How far it is from each cell home, or else from home to each cell; costs holds the free cells alone."""
    found = {home: 0} if home in costs else {}
    changed = True
    while changed:
        changed = False
        for cell in costs:
            for near in beside(width, height, cell):
                entered = near if homeward else cell
                if near in found and found[near] + costs[entered] < found.get(cell, NEVER):
                    found[cell] = found[near] + costs[entered]
                    changed = True
    return found


class Model:
    """The rover as the document tells it, by way of writing out every way there is: for small maps only."""

    def __init__(self, width, height, home, room, ground):
        self.width, self.height, self.home, self.room = width, height, home, room
        self.ground = ground
        self.costs = {}
        self.place, self.left = home, room
        self.been, self.kept = {home}, set()
        self.seen, self.had = [], 0
        self.last, self.yes = 0, 0
        self.ticks = 0
        self.ways_made = {}

    def the_way(self, first, last, kept):
        """(takes, cells, row) of The way, or None."""
        key = (first, tuple(sorted(self.costs)), tuple(sorted(kept)))
        if key not in self.ways_made:
            self.ways_made[key] = self.best_ways(first, kept)
        return self.ways_made[key].get(last)

    def best_ways(self, first, kept):
        free = {cell: cost for cell, cost in self.costs.items() if cost != 255 and cell not in kept}
        best = {}
        rows = [[first]] if first in free else []
        while rows:
            row = rows.pop()
            value = (sum(free[cell] for cell in row[1:]), len(row), row)
            if row[-1] not in best or value < best[row[-1]]:
                best[row[-1]] = value
            rows.extend(row + [cell] for cell in beside(self.width, self.height, row[-1])
                        if cell in free and cell not in row)
        return best

    def sent_seen(self):
        if self.had >= len(self.seen):
            return []
        cell = self.seen[self.had]
        return [3] + seen(self.had + 1, cell, self.costs[cell])

    def step(self):
        sight = set(beside(self.width, self.height, self.place)) | {self.home}
        unknown = sorted(cell for cell in sight if cell not in self.costs)
        if unknown:
            given = [1]
            for cell in unknown:
                self.costs[cell] = self.ground[cell]
                self.seen.append(cell)
                given += [0, cell, self.ground[cell]]
                if len(self.seen) - 1 == self.had:
                    given += self.sent_seen()
            return given
        goals = []
        for cell in range(self.width * self.height):
            there = self.the_way(self.place, cell, self.kept)
            back = self.the_way(cell, self.home, self.kept)
            if cell not in self.been and there and back and there[0] + back[0] <= self.left:
                goals.append((there[0], cell, there[2]))
        if goals:
            return [2] + self.go(min(goals)[2][1])
        if self.place != self.home:
            return [3] + self.go(self.the_way(self.place, self.home, self.kept)[2][1])
        if self.left < self.room:
            self.left = self.room
            return [4, 2]
        return [0]

    def go(self, cell):
        self.place = cell
        self.left -= self.costs[cell]
        self.been.add(cell)
        return [1, cell]

    def heard(self, m):
        if len(m) != 8:
            return [-71]
        number = m[2] + 256 * m[3]
        if number > 0 and m[4] < self.width * self.height and m == keep_out(number, m[4]):
            return [0] + self.keep_out(number, m[4])
        if number > 0 and m == had(number):
            if number == self.had + 1 and len(self.seen) >= number:
                self.had += 1
                return [0] + self.sent_seen()
            return [0]
        return [-71]

    def keep_out(self, number, cell):
        if number == self.last + 1:
            self.last, self.yes = number, 0
            way = self.the_way(self.place, self.home, self.kept | {cell})
            if self.home in self.costs and cell not in (self.home, self.place) and way and way[0] <= self.left:
                self.yes = 1
                self.kept.add(cell)
        return [3] + answered(number, self.yes) if number == self.last else []

    def tick(self):
        self.ticks += 1
        return [0] + (self.sent_seen() if self.ticks % 5 == 0 else [])

    def state(self):
        return [0, self.place, self.left, len(self.seen), self.had, self.last, len(self.been)]


def random_ground(dice, size, home, closed_share, costs):
    ground = [255 if dice.random() < closed_share else dice.choice(costs) for cell in range(size)]
    if ground[home] == 255:
        ground[home] = dice.choice(costs)
    return ground


def dice_of(seed):
    return random.Random(seed)
