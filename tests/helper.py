"""What the tests share: calls as numbers, answers split up, a line asked call by call, what a line's answers tell of
the rover, and slow models of both ends, as the document tells them, to compare with."""

import random

from roverhome.ground import Line, answers

NEVER = 10 ** 9
MOST = 4294967295


# Calls, each a list of numbers.

def whole_ground(costs, behind=255):
    return list(costs) + [behind] * (256 - len(costs))


def rv_start(width, height, home, room, costs, behind=255):
    return [0, width, height, home, room, 256] + whole_ground(costs, behind)


STEP = [1]
TICK = [3]
STATE = [4]


def heard(m):
    return [2, len(m)] + list(m)


def bs_start(width, height):
    return [5, width, height]


def avoid(cell):
    return [6, cell]


def people_heard(m):
    return [7, len(m)] + list(m)


PEOPLE_TICK = [8]
PEOPLE_MAP = [9]
PEOPLE_STATE = [10]


# Messages.

def keep_out(number, cell):
    return [1, 0, number % 256, number // 256, cell, 0, 0, 0]


def had(number):
    return [2, 0, number % 256, number // 256, 0, 0, 0, 0]


def seen(number, cell, cost):
    return [3, 0, number % 256, number // 256, cell, cost, 0, 0]


def answered(number, yes):
    return [4, 0, number % 256, number // 256, yes, 0, 0, 0]


# Answers.

def joined(calls):
    return [number for call in calls for number in call]


def split(given):
    parts = []
    at = 0
    while at < len(given):
        parts.append(given[at + 1:at + 1 + given[at]])
        at += 1 + given[at]
    if at != len(given):
        raise AssertionError("the last count runs over the end")
    return parts


def told(*calls):
    """The answers to these calls, one list each."""
    parts = split(answers(joined(calls)))
    if len(parts) != len(calls):
        raise AssertionError(f"{len(calls)} calls, {len(parts)} answers")
    return parts


def done(answer):
    """What's told behind an answer's first number."""
    things = []
    at = 1
    while at < len(answer):
        length = {0: 3, 1: 2, 2: 1, 3: 9}[answer[at]]
        things.append(tuple(answer[at:at + length]))
        at += length
    return things


def steps_until_nothing(start, most=1900):
    """The answers of rv_step behind a start, up to and with the first 0."""
    given = told(start, *[STEP] * most)[1:]
    return given[:given.index([0]) + 1]


class Live:
    """A line that's asked call by call, for calls that hang on earlier answers, or more of them than a list holds."""

    def __init__(self, *calls):
        self.line = Line()
        self.calls, self.given = [], []
        for call in calls:
            self.ask(call)

    def ask(self, call):
        row_at = {0: 6, 2: 2, 7: 2}.get(call[0], len(call) + 1)
        answer = self.line.answer(list(call[:row_at - 1]), list(call[row_at:]))
        self.calls.append(call)
        self.given.append(list(answer))
        return answer

    def same_in_one_list(self):
        """Whether the same calls, in one list, are answered the same."""
        return split(answers(joined(self.calls))) == self.given


# Maps, worked out from columns and rows rather than from cell numbers.

def beside(width, height, cell):
    y, x = divmod(cell, width)
    around = [(x, y - 1), (x - 1, y), (x + 1, y), (x, y + 1)]
    return [width * b + a for a, b in around if 0 <= a < width and 0 <= b < height]


def far(width, height, costs, home, homeward):
    """How far it is from each cell home, or else from home to each cell; costs holds the free cells alone."""
    found = {home: 0} if home in costs else {}
    changed = True
    while changed:
        changed = False
        for cell in costs:
            for near in beside(width, height, cell):
                entered = near if homeward else cell
                if near in found and found[near] + costs[entered] < found.get(cell, NEVER):
                    found[cell] = found[near] + costs[entered]
                    changed = True
    return found


class Followed:
    """What a line's answers tell of the rover, kept apart from the rover itself."""

    def __init__(self, test, width, height, home, room, ground, asked_each=1):
        self.test = test
        self.asked_each, self.steps = asked_each, 0
        self.width, self.height, self.home, self.room, self.ground = width, height, home, room, ground
        self.costs, self.place, self.left = {}, home, room
        self.been, self.kept = {home}, set()

    def free(self):
        return {cell: cost for cell, cost in self.costs.items() if cost != 255 and cell not in self.kept}

    def follow_step(self, answer):
        for thing in done(answer):
            if thing[0] == 0:
                self.test.assertEqual(self.ground[thing[1]], thing[2])
                self.test.assertNotIn(thing[1], self.costs)
                self.costs[thing[1]] = thing[2]
            elif thing[0] == 1:
                self.go(thing[1])
            elif thing[0] == 2:
                self.test.assertEqual(self.place, self.home)
                self.left = self.room
        self.steps += 1
        if self.steps % self.asked_each == 0:
            self.ask_home()
        if answer == [0]:
            self.ask_everything()

    def go(self, cell):
        self.test.assertIn(cell, beside(self.width, self.height, self.place))
        self.test.assertIn(cell, self.free())
        self.test.assertNotIn(cell, self.kept)
        self.place = cell
        self.left -= self.costs[cell]
        self.been.add(cell)

    def follow_keep_out(self, cell, answer):
        if answer[6] == 1:
            self.kept.add(cell)
        if self.costs:
            self.ask_home()

    def ask_home(self):
        back = far(self.width, self.height, self.free(), self.home, True)
        self.test.assertLessEqual(back.get(self.place, NEVER), self.left)

    def ask_everything(self):
        self.test.assertEqual((self.place, self.left), (self.home, self.room))
        whole = {cell: cost for cell, cost in enumerate(self.ground) if cost != 255 and cell not in self.kept}
        there = far(self.width, self.height, whole, self.home, False)
        back = far(self.width, self.height, whole, self.home, True)
        for cell in there:
            if there[cell] + back[cell] <= self.room:
                self.test.assertIn(cell, self.been)
                for near in beside(self.width, self.height, cell):
                    self.test.assertIn(near, self.costs)


class Model:
    """The rover as the document tells it, by way of writing out every way there is: for small maps only."""

    def __init__(self, width, height, home, room, ground):
        self.width, self.height, self.home, self.room = width, height, home, room
        self.ground = ground
        self.costs = {}
        self.place, self.left = home, room
        self.been, self.kept = {home}, set()
        self.seen, self.had = [], 0
        self.last, self.yes = 0, 0
        self.ticks = 0
        self.ways_made = {}

    def the_way(self, first, last, kept):
        """(takes, cells, row) of The way, or None."""
        key = (first, tuple(sorted(self.costs)), tuple(sorted(kept)))
        if key not in self.ways_made:
            self.ways_made[key] = self.best_ways(first, kept)
        return self.ways_made[key].get(last)

    def best_ways(self, first, kept):
        free = {cell: cost for cell, cost in self.costs.items() if cost != 255 and cell not in kept}
        best = {}
        rows = [[first]] if first in free else []
        while rows:
            row = rows.pop()
            value = (sum(free[cell] for cell in row[1:]), len(row), row)
            if row[-1] not in best or value < best[row[-1]]:
                best[row[-1]] = value
            rows.extend(row + [cell] for cell in beside(self.width, self.height, row[-1])
                        if cell in free and cell not in row)
        return best

    def sent_seen(self):
        if self.had >= len(self.seen):
            return []
        cell = self.seen[self.had]
        return [3] + seen(self.had + 1, cell, self.costs[cell])

    def step(self):
        sight = set(beside(self.width, self.height, self.place)) | {self.home}
        unknown = sorted(cell for cell in sight if cell not in self.costs)
        if unknown:
            given = [1]
            for cell in unknown:
                self.costs[cell] = self.ground[cell]
                self.seen.append(cell)
                given += [0, cell, self.ground[cell]]
                if len(self.seen) - 1 == self.had:
                    given += self.sent_seen()
            return given
        goals = []
        for cell in range(self.width * self.height):
            there = self.the_way(self.place, cell, self.kept)
            back = self.the_way(cell, self.home, self.kept)
            if cell not in self.been and there and back and there[0] + back[0] <= self.left:
                goals.append((there[0], cell, there[2]))
        if goals:
            return [2] + self.go(min(goals)[2][1])
        if self.place != self.home:
            return [3] + self.go(self.the_way(self.place, self.home, self.kept)[2][1])
        if self.left < self.room:
            self.left = self.room
            return [4, 2]
        return [0]

    def go(self, cell):
        self.place = cell
        self.left -= self.costs[cell]
        self.been.add(cell)
        return [1, cell]

    def heard(self, m):
        if len(m) != 8:
            return [-71]
        number = m[2] + 256 * m[3]
        if number > 0 and m[4] < self.width * self.height and m == keep_out(number, m[4]):
            return [0] + self.keep_out(number, m[4])
        if number > 0 and m == had(number):
            if number == self.had + 1 and len(self.seen) >= number:
                self.had += 1
                return [0] + self.sent_seen()
            return [0]
        return [-71]

    def keep_out(self, number, cell):
        if number == self.last + 1:
            self.last, self.yes = number, 0
            way = self.the_way(self.place, self.home, self.kept | {cell})
            if self.home in self.costs and cell not in (self.home, self.place) and way and way[0] <= self.left:
                self.yes = 1
                self.kept.add(cell)
        return [3] + answered(number, self.yes) if number == self.last else []

    def tick(self):
        self.ticks += 1
        return [0] + (self.sent_seen() if self.ticks % 5 == 0 else [])

    def state(self):
        return [0, self.place, self.left, len(self.seen), self.had, self.last, len(self.been)]


class PeopleModel:
    """The people's end as the document tells it: what was told and sent, in full, in the order it came."""

    def __init__(self, width, height):
        self.size = width * height
        self.told = []
        self.keep_outs = []
        self.yes = {}
        self.ticks = 0

    def waits(self):
        return len(self.keep_outs) > 0 and len(self.keep_outs) not in self.yes

    def last_sent(self):
        return [3] + keep_out(len(self.keep_outs), self.keep_outs[-1])

    def avoid(self, cell):
        if not 0 <= cell < self.size:
            return [-22]
        if self.waits():
            return [-16]
        if len(self.keep_outs) == 65535:
            return [-28]
        self.keep_outs.append(cell)
        return [len(self.keep_outs)] + self.last_sent()

    def heard(self, m):
        if len(m) != 8 or m[2:4] == [0, 0]:
            return [-71]
        number, cell, cost = m[2] + 256 * m[3], m[4], m[5]
        if m == seen(number, cell, cost) and cell < self.size and cost in [*range(1, 201), 255]:
            if number == len(self.told) + 1:
                self.told.append((cell, cost))
            return [0, 3] + had(number) if number <= len(self.told) else [0]
        if m == answered(number, cell) and cell in (0, 1):
            if number == len(self.keep_outs):
                self.yes.setdefault(number, cell)
            return [0]
        return [-71]

    def tick(self):
        self.ticks += 1
        return [0] + (self.last_sent() if self.ticks % 5 == 0 and self.waits() else [])

    def map(self):
        costs = dict(self.told)
        return [len(self.told)] + [costs.get(cell, 0) for cell in range(256)]

    def state(self):
        last = len(self.keep_outs)
        cell = self.keep_outs[-1] if last else 0
        return [0, len(self.told), last, cell, 1 + self.yes[last] if last in self.yes else 0]


def random_ground(dice, size, home, closed_share, costs):
    ground = [255 if dice.random() < closed_share else dice.choice(costs) for cell in range(size)]
    if ground[home] == 255:
        ground[home] = dice.choice(costs)
    return ground


def dice_of(seed):
    return random.Random(seed)


SHAPES = ((1, 1), (2, 1), (1, 2), (7, 1), (1, 9), (16, 1), (2, 2), (3, 3), (4, 3), (2, 6), (5, 5), (6, 4))
COSTS = ((1,), (1, 2), (1, 2, 3, 9), (200,), (1, 200), tuple(range(1, 201)))


def some_ground(seed):
    dice = dice_of(seed)
    width, height = dice.choice(SHAPES)
    costs = dice.choice(COSTS)
    home = dice.randrange(width * height)
    ground = random_ground(dice, width * height, home, dice.choice((0, 0.1, 0.3)), costs)
    room = min(65535, dice.choice((1, 2, 5, 8, 12, 20, 40)) * dice.choice(costs) + dice.choice((0, 1, 3)))
    return dice, width, height, home, room, ground
