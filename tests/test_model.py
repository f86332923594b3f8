"""Lines of mixed calls, compared with a model that writes out every way there is."""

import unittest

from helper import STATE, STEP, TICK, Model, dice_of, had, heard, keep_out, random_ground, rv_start, told

SHAPES = ((1, 1), (3, 1), (1, 4), (2, 2), (3, 2), (2, 3), (3, 3), (3, 3), (4, 2), (4, 3))
COSTS = ((1,), (1, 2), (1, 2, 3), (1, 5), (3, 200))


def some_message(dice, model):
    size = model.width * model.height
    sort = dice.randrange(10)
    if sort < 4:
        return keep_out(model.last + dice.choice((1, 1, 1, 0, 2)), dice.randrange(size))
    if sort < 5:
        return keep_out(max(model.last - 1, 0), dice.randrange(size + 1))
    if sort < 8:
        return had(model.had + dice.choice((1, 1, 1, 0, 2)))
    m = dice.choice((keep_out(model.last + 1, size - 1), had(model.had + 1)))
    if sort < 9:
        m[dice.randrange(8)] = dice.choice((0, 1, 2, 3, 255))
        return m
    return (m + [0] * 4)[:dice.randrange(13)]


def some_start(dice):
    width, height = dice.choice(SHAPES)
    costs = dice.choice(COSTS)
    home = dice.randrange(width * height)
    ground = random_ground(dice, width * height, home, dice.choice((0, 0.2)), costs)
    if dice.random() < 0.03:
        ground[home] = 255
    return width, height, home, dice.choice((3, 6, 10, 16, 30)) * max(costs) - dice.randrange(2), ground


class Compared(unittest.TestCase):
    def compare(self, seed, talk, count):
        dice = dice_of(seed)
        first = some_start(dice)
        model = Model(*first)
        calls = [rv_start(*first, behind=dice.choice((1, 255)))]
        wanted = [[0]]
        for _ in range(count):
            if dice.random() >= talk:
                calls.append(STEP)
                wanted.append(model.step())
                continue
            sort = dice.randrange(12)
            if sort < 7:
                m = some_message(dice, model)
                calls.append(heard(m))
                wanted.append(model.heard(m))
            elif sort < 9:
                calls.append(TICK)
                wanted.append(model.tick())
            elif sort < 11:
                calls.append(STATE)
                wanted.append(model.state())
            elif dice.random() < 0.2:
                again = some_start(dice)
                model = Model(*again)
                calls.append(rv_start(*again))
                wanted.append([0])
        self.assertEqual(told(*calls), wanted)

    def test_steps_alone(self):
        for seed in range(200):
            with self.subTest(seed=seed):
                self.compare(seed, 0, 90)

    def test_mixed(self):
        for seed in range(2000, 2300):
            with self.subTest(seed=seed):
                self.compare(seed, 0.4, 120)

    def test_much_talk(self):
        for seed in range(5000, 5200):
            with self.subTest(seed=seed):
                self.compare(seed, 0.8, 200)
