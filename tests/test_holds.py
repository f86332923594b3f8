"""What holds, a to d, over a number of grounds, with and without keep outs between the steps."""

import unittest

from helper import STEP, Followed, Live, dice_of, heard, keep_out, random_ground, rv_start, some_ground, told


class Holds(unittest.TestCase):
    def follow(self, seed, keep_outs, steps=700):
        dice, width, height, home, room, ground = some_ground(seed)
        calls = [STEP]
        cells = [None]
        count = 0
        for _ in range(60 if keep_outs else 0):
            if dice.random() < 0.3 and count < 6:
                count += 1
                cells.append(dice.randrange(width * height))
                calls.append(heard(keep_out(count, cells[-1])))
            cells.append(None)
            calls.append(STEP)
        cells += [None] * steps
        calls += [STEP] * steps
        given = told(rv_start(width, height, home, room, ground), *calls)[1:]
        line = Followed(self, width, height, home, room, ground)
        ended = False
        for cell, answer in zip(cells, given):
            if cell is not None:
                line.follow_keep_out(cell, answer)
                ended = False
            elif ended:
                self.assertEqual(answer, [0])
            else:
                line.follow_step(answer)
                ended = answer == [0]
        self.assertTrue(ended)

    def test_steps_alone(self):
        for seed in range(150):
            with self.subTest(seed=seed):
                self.follow(seed, False)

    def test_keep_outs_between(self):
        for seed in range(1000, 1250):
            with self.subTest(seed=seed):
                self.follow(seed, True)


class LargeGrounds(unittest.TestCase):
    def follow(self, home, room, ground):
        given = told(rv_start(16, 16, home, room, ground), *[STEP] * 1990)[1:]
        self.assertIn([0], given)
        ending = given.index([0])
        # Asking behind each step would be slow here.
        line = Followed(self, 16, 16, home, room, ground, asked_each=7)
        for answer in given[:ending + 1]:
            line.follow_step(answer)
        self.assertEqual(given[ending:], [[0]] * (len(given) - ending))

    def test_open_ground(self):
        self.follow(0, 65535, [1] * 256)
        self.follow(119, 24, [1] * 256)
        self.follow(0, 60, [1] * 256)
        self.follow(255, 6000, [200] * 256)

    def test_a_winding_row(self):
        # Every other row is closed but for its one end, on turning sides.
        rows = [[3] * 16 if y % 2 == 0 else [255] * 16 for y in range(16)]
        for y in range(1, 16, 2):
            rows[y][15 if y % 4 == 1 else 0] = 3
        ground = [cost for row in rows for cost in row]
        self.follow(0, 65535, ground)
        self.follow(0, 405, ground)
        self.follow(128, 300, ground)

    def test_mixed_ground(self):
        for seed in range(4):
            dice = dice_of(seed)
            home = dice.randrange(256)
            ground = random_ground(dice, 256, home, 0.25, (1, 2, 3, 10, 200))
            self.follow(home, dice.choice((50, 500, 5000)), ground)


class MoreStepsThanAListHolds(unittest.TestCase):
    def test_a_cell_a_journey(self):
        # A winding row, and beside it cells so dear that what's left never does for two of them.
        side = 12
        rows = [[1] * side if y % 2 == 0 else [200] * side for y in range(side)]
        for y in range(1, side, 2):
            rows[y][side - 1 if y % 4 == 1 else 0] = 1
        ground = [cost for row in rows for cost in row]
        room = 2 * ground.count(1) + 200
        live = Live(rv_start(side, side, 0, room, ground))
        line = Followed(self, side, side, 0, room, ground, asked_each=61)
        answer = None
        while answer != [0] and line.steps < 140000:
            answer = live.ask(STEP)
            line.follow_step(answer)
        self.assertEqual(answer, [0])
        self.assertGreater(line.steps, 2000)
