"""Lines of mixed calls, compared with models of both ends: the rover's writes out every way there is."""

import unittest

from helper import (PEOPLE_MAP, PEOPLE_STATE, PEOPLE_TICK, STATE, STEP, TICK, Model, PeopleModel, answered, avoid,
                    bs_start, dice_of, had, heard, keep_out, people_heard, random_ground, rv_start, seen, told)

SHAPES = ((1, 1), (3, 1), (1, 4), (2, 2), (3, 2), (2, 3), (3, 3), (3, 3), (4, 2), (4, 3))
COSTS = ((1,), (1, 2), (1, 2, 3), (1, 5), (3, 200))


def some_message(dice, model):
    size = model.width * model.height
    sort = dice.randrange(10)
    if sort < 4:
        return keep_out(model.last + dice.choice((1, 1, 1, 0, 2)), dice.randrange(size))
    if sort < 5:
        return keep_out(max(model.last - 1, 0), dice.randrange(size + 1))
    if sort < 8:
        return had(model.had + dice.choice((1, 1, 1, 0, 2)))
    m = dice.choice((keep_out(model.last + 1, size - 1), had(model.had + 1)))
    if sort < 9:
        m[dice.randrange(8)] = dice.choice((0, 1, 2, 3, 255))
        return m
    return (m + [0] * 4)[:dice.randrange(13)]


def some_start(dice):
    width, height = dice.choice(SHAPES)
    costs = dice.choice(COSTS)
    home = dice.randrange(width * height)
    ground = random_ground(dice, width * height, home, dice.choice((0, 0.2)), costs)
    if dice.random() < 0.03:
        ground[home] = 255
    return width, height, home, dice.choice((3, 6, 10, 16, 30)) * max(costs) - dice.randrange(2), ground


class Compared(unittest.TestCase):
    def compare(self, seed, talk, count):
        dice = dice_of(seed)
        first = some_start(dice)
        model = Model(*first)
        calls = [rv_start(*first, behind=dice.choice((1, 255)))]
        wanted = [[0]]
        for _ in range(count):
            if dice.random() >= talk:
                calls.append(STEP)
                wanted.append(model.step())
                continue
            sort = dice.randrange(12)
            if sort < 7:
                m = some_message(dice, model)
                calls.append(heard(m))
                wanted.append(model.heard(m))
            elif sort < 9:
                calls.append(TICK)
                wanted.append(model.tick())
            elif sort < 11:
                calls.append(STATE)
                wanted.append(model.state())
            elif dice.random() < 0.2:
                again = some_start(dice)
                model = Model(*again)
                calls.append(rv_start(*again))
                wanted.append([0])
        self.assertEqual(told(*calls), wanted)

    def test_steps_alone(self):
        for seed in range(200):
            with self.subTest(seed=seed):
                self.compare(seed, 0, 90)

    def test_mixed(self):
        for seed in range(2000, 2300):
            with self.subTest(seed=seed):
                self.compare(seed, 0.4, 120)

    def test_much_talk(self):
        for seed in range(5000, 5200):
            with self.subTest(seed=seed):
                self.compare(seed, 0.8, 200)


def some_message_home(dice, model):
    number = dice.choice((len(model.told), len(model.keep_outs))) + dice.choice((1, 1, 1, 0, 2))
    if dice.random() < 0.2:
        number = max(1, number - dice.randrange(4))
    said = dice.choice((0, 1, 0, 1, 0, 1, 2, 255))
    cost = dice.choice((1, 2, 199, 200, 255, 5, 9, 0, 201, 254))
    m = dice.choice((seen(number, dice.randrange(model.size + 1) % 256, cost), answered(number, said)))
    sort = dice.randrange(10)
    if sort == 0:
        m[dice.randrange(8)] = dice.choice((0, 1, 2, 3, 255))
    if sort == 1:
        return (m + [0] * 4)[:dice.randrange(13)]
    return m


class PeopleCompared(unittest.TestCase):
    def compare(self, seed, count):
        dice = dice_of(seed)
        calls, wanted = [], []
        model = None
        for _ in range(count):
            sort = dice.randrange(20)
            if model is None or (sort == 0 and dice.random() < 0.2):
                width, height = dice.choice(SHAPES + ((16, 16),))
                model = PeopleModel(width, height)
                self.call(calls, wanted, bs_start(width, height), [0])
            elif sort < 4:
                cell = dice.choice((dice.randrange(model.size), dice.randrange(model.size), model.size))
                self.call(calls, wanted, avoid(cell), model.avoid(cell))
            elif sort < 14:
                m = some_message_home(dice, model)
                self.call(calls, wanted, people_heard(m), model.heard(m))
            elif sort < 18:
                self.call(calls, wanted, PEOPLE_TICK, model.tick())
            elif sort < 19:
                self.call(calls, wanted, PEOPLE_MAP, model.map())
            else:
                self.call(calls, wanted, PEOPLE_STATE, model.state())
        self.assertEqual(told(*calls), wanted)

    def call(self, calls, wanted, call, answer):
        calls.append(call)
        wanted.append(answer)

    def test_mixed(self):
        for seed in range(300):
            with self.subTest(seed=seed):
                self.compare(seed, 300)
