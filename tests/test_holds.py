"""What holds, a to d, over a number of grounds, with and without keep outs between the steps."""

import unittest

from helper import NEVER, STEP, beside, dice_of, done, far, heard, keep_out, random_ground, rv_start, told


class Followed:
    """What a line's answers tell of the rover, kept apart from the rover itself."""

    def __init__(self, test, width, height, home, room, ground, asked_each=1):
        self.test = test
        self.asked_each, self.steps = asked_each, 0
        self.width, self.height, self.home, self.room, self.ground = width, height, home, room, ground
        self.costs, self.place, self.left = {}, home, room
        self.been, self.kept = {home}, set()

    def free(self):
        return {cell: cost for cell, cost in self.costs.items() if cost != 255 and cell not in self.kept}

    def follow_step(self, answer):
        for thing in done(answer):
            if thing[0] == 0:
                self.test.assertEqual(self.ground[thing[1]], thing[2])
                self.test.assertNotIn(thing[1], self.costs)
                self.costs[thing[1]] = thing[2]
            elif thing[0] == 1:
                self.go(thing[1])
            elif thing[0] == 2:
                self.test.assertEqual(self.place, self.home)
                self.left = self.room
        self.steps += 1
        if self.steps % self.asked_each == 0:
            self.ask_home()
        if answer == [0]:
            self.ask_everything()

    def go(self, cell):
        self.test.assertIn(cell, beside(self.width, self.height, self.place))
        self.test.assertIn(cell, self.free())
        self.test.assertNotIn(cell, self.kept)
        self.place = cell
        self.left -= self.costs[cell]
        self.been.add(cell)

    def follow_keep_out(self, cell, answer):
        if answer[6] == 1:
            self.kept.add(cell)
        if self.costs:
            self.ask_home()

    def ask_home(self):
        back = far(self.width, self.height, self.free(), self.home, True)
        self.test.assertLessEqual(back.get(self.place, NEVER), self.left)

    def ask_everything(self):
        self.test.assertEqual((self.place, self.left), (self.home, self.room))
        whole = {cell: cost for cell, cost in enumerate(self.ground) if cost != 255 and cell not in self.kept}
        there = far(self.width, self.height, whole, self.home, False)
        back = far(self.width, self.height, whole, self.home, True)
        for cell in there:
            if there[cell] + back[cell] <= self.room:
                self.test.assertIn(cell, self.been)
                for near in beside(self.width, self.height, cell):
                    self.test.assertIn(near, self.costs)


SHAPES = ((1, 1), (2, 1), (1, 2), (7, 1), (1, 9), (16, 1), (2, 2), (3, 3), (4, 3), (2, 6), (5, 5), (6, 4))
COSTS = ((1,), (1, 2), (1, 2, 3, 9), (200,), (1, 200), tuple(range(1, 201)))


def some_ground(seed):
    dice = dice_of(seed)
    width, height = dice.choice(SHAPES)
    costs = dice.choice(COSTS)
    home = dice.randrange(width * height)
    ground = random_ground(dice, width * height, home, dice.choice((0, 0.1, 0.3)), costs)
    room = min(65535, dice.choice((1, 2, 5, 8, 12, 20, 40)) * dice.choice(costs) + dice.choice((0, 1, 3)))
    return dice, width, height, home, room, ground


class Holds(unittest.TestCase):
    def follow(self, seed, keep_outs, steps=700):
        dice, width, height, home, room, ground = some_ground(seed)
        calls = [STEP]
        cells = [None]
        count = 0
        for _ in range(60 if keep_outs else 0):
            if dice.random() < 0.3 and count < 6:
                count += 1
                cells.append(dice.randrange(width * height))
                calls.append(heard(keep_out(count, cells[-1])))
            cells.append(None)
            calls.append(STEP)
        cells += [None] * steps
        calls += [STEP] * steps
        given = told(rv_start(width, height, home, room, ground), *calls)[1:]
        line = Followed(self, width, height, home, room, ground)
        ended = False
        for cell, answer in zip(cells, given):
            if cell is not None:
                line.follow_keep_out(cell, answer)
                ended = False
            elif ended:
                self.assertEqual(answer, [0])
            else:
                line.follow_step(answer)
                ended = answer == [0]
        self.assertTrue(ended)

    def test_steps_alone(self):
        for seed in range(150):
            with self.subTest(seed=seed):
                self.follow(seed, False)

    def test_keep_outs_between(self):
        for seed in range(1000, 1250):
            with self.subTest(seed=seed):
                self.follow(seed, True)


class LargeGrounds(unittest.TestCase):
    def follow(self, home, room, ground):
        given = told(rv_start(16, 16, home, room, ground), *[STEP] * 1990)[1:]
        self.assertIn([0], given)
        ending = given.index([0])
        # Asking behind each step would be slow here.
        line = Followed(self, 16, 16, home, room, ground, asked_each=7)
        for answer in given[:ending + 1]:
            line.follow_step(answer)
        self.assertEqual(given[ending:], [[0]] * (len(given) - ending))

    def test_open_ground(self):
        self.follow(0, 65535, [1] * 256)
        self.follow(119, 24, [1] * 256)
        self.follow(0, 60, [1] * 256)
        self.follow(255, 6000, [200] * 256)

    def test_a_winding_row(self):
        # Every other row is closed but for its one end, on turning sides.
        rows = [[3] * 16 if y % 2 == 0 else [255] * 16 for y in range(16)]
        for y in range(1, 16, 2):
            rows[y][15 if y % 4 == 1 else 0] = 3
        ground = [cost for row in rows for cost in row]
        self.follow(0, 65535, ground)
        self.follow(0, 405, ground)
        self.follow(128, 300, ground)

    def test_mixed_ground(self):
        for seed in range(4):
            dice = dice_of(seed)
            home = dice.randrange(256)
            ground = random_ground(dice, 256, home, 0.25, (1, 2, 3, 10, 200))
            self.follow(home, dice.choice((50, 500, 5000)), ground)
