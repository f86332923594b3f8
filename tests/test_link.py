"""What holds, a to e, with both ends on one line and a link between them that loses, doubles and delays messages."""

import unittest

from helper import (PEOPLE_MAP, PEOPLE_STATE, PEOPLE_TICK, STATE, STEP, TICK, Followed, Live, answered, avoid, beside,
                    bs_start, dice_of, done, had, heard, keep_out, people_heard, random_ground, rv_start, seen,
                    some_ground, told)

TO_ROVER = (1, 2)


class Link:
    """Both ends on one line; what one sends comes to the other late, twice, or not at all."""

    def __init__(self, test, dice, width, height, home, room, ground, asked_each=1):
        self.test, self.dice = test, dice
        self.live = Live(rv_start(width, height, home, room, ground), bs_start(width, height))
        self.rover = Followed(test, width, height, home, room, ground, asked_each)
        self.lost, self.doubled, self.latest = 0, 0, 0
        self.under_way = []
        self.now = 0
        self.order = []
        self.said = {}

    def set_link(self, lost, doubled, latest):
        self.lost, self.doubled, self.latest = lost, doubled, latest

    def ask(self, call):
        answer = self.live.ask(call)
        for thing in done(answer):
            if thing[0] == 3 and self.dice.random() >= self.lost:
                for _ in range(2 if self.dice.random() < self.doubled else 1):
                    self.under_way.append((self.now + self.dice.randint(0, self.latest), list(thing[1:])))
        return answer

    def step(self):
        answer = self.ask(STEP)
        self.order += [thing[1] for thing in done(answer) if thing[0] == 0]
        self.rover.follow_step(answer)
        return answer

    def avoid_some_cell(self):
        near = beside(self.rover.width, self.rover.height, self.rover.place)
        size = self.rover.width * self.rover.height
        self.ask(avoid(self.dice.choice(near + [self.dice.randrange(size), self.dice.randrange(size)])))

    def deliver(self):
        """All that's due comes, in any order, and what's sent upon it too, if that's due by now."""
        while True:
            due = [one for one in self.under_way if one[0] <= self.now]
            if not due:
                return
            one = self.dice.choice(due)
            self.under_way.remove(one)
            if one[1][0] in TO_ROVER:
                self.come_to_rover(one[1])
            else:
                self.test.assertEqual(self.ask(people_heard(one[1]))[0], 0)

    def come_to_rover(self, m):
        answer = self.ask(heard(m))
        self.test.assertEqual(answer[0], 0)
        if m[0] == 1 and len(answer) > 1:
            number = m[2] + 256 * m[3]
            if number not in self.said:
                self.said[number] = answer[6]
                self.rover.follow_keep_out(m[4], answer)
            self.test.assertEqual(answer, [0, 3] + answered(number, self.said[number]))

    def ticks(self):
        self.now += 1
        self.ask(TICK)
        self.ask(PEOPLE_TICK)
        self.deliver()

    def ask_map(self):
        """The cells told are those first seen, in order; what the rover knows to be had was told."""
        whole = self.live.ask(PEOPLE_MAP)
        true = {cell: self.rover.ground[cell] for cell in self.order[:whole[0]]}
        self.test.assertLessEqual(whole[0], len(self.order))
        self.test.assertEqual(whole[1:], [true.get(cell, 0) for cell in range(256)])
        state = self.live.ask(STATE)
        self.test.assertEqual(state[3], len(self.order))
        self.test.assertLessEqual(state[4], whole[0])
        people = self.live.ask(PEOPLE_STATE)
        self.test.assertIn(people[2] - state[5], (0, 1))
        if people[4] > 0:
            self.test.assertEqual(people[4] - 1, self.said[people[2]])

    def come_through(self):
        """Messages come through from now on: behind five ticks of both ends all are told, the last one's answered."""
        self.set_link(0, 0, 0)
        for _ in range(5):
            self.ticks()
        self.ask_map()
        count = len(self.order)
        state, people = self.live.ask(STATE), self.live.ask(PEOPLE_STATE)
        self.test.assertEqual((state[3], state[4], people[1]), (count, count, count))
        self.test.assertEqual(people[2], state[5])
        self.test.assertEqual(people[4], 1 + self.said[people[2]] if people[2] > 0 else 0)

    def step_to_the_end(self, most):
        for _ in range(most):
            if self.step() == [0]:
                return
        self.test.fail("no 0 in so many steps")


# How many in all are lost, how many doubled, and how late they are at most.
LINKS = ((0, 0, 0), (0.3, 0.3, 4), (0.7, 0.1, 15), (0, 1, 9), (0.9, 0.5, 40), (0.1, 0, 60), (1, 0, 0))


class OverTheLink(unittest.TestCase):
    def run_line(self, seed, rounds):
        dice, width, height, home, room, ground = some_ground(seed)
        link = Link(self, dice, width, height, home, room, ground)
        link.set_link(*LINKS[seed % len(LINKS)])
        for count in range(dice.randrange(rounds)):
            if dice.random() < 0.2:
                link.avoid_some_cell()
            if dice.random() < 0.8:
                link.step()
            if dice.random() < 0.7:
                link.ticks()
            if count % 7 == 0:
                link.ask_map()
        return dice, link

    def test_a_to_e(self):
        for seed in range(4000, 4280):
            with self.subTest(seed=seed):
                dice, link = self.run_line(seed, 130)
                if dice.random() < 0.5:
                    link.under_way = []
                link.come_through()
                link.step_to_the_end(700)
                link.come_through()
                self.assertTrue(link.live.same_in_one_list())
                self.assertLessEqual(len(link.live.calls), 2000)

    def test_it_ends_without_a_word(self):
        # Whatever was said before: behind the last word steps alone come to 0.
        for seed in range(6000, 6140):
            with self.subTest(seed=seed):
                dice, link = self.run_line(seed, 90)
                link.step_to_the_end(700)
                self.assertEqual(link.step(), [0])
                link.come_through()
                self.assertTrue(link.live.same_in_one_list())

    def test_a_large_ground(self):
        for seed in range(3):
            with self.subTest(seed=seed):
                dice = dice_of(seed)
                home = dice.randrange(256)
                ground = random_ground(dice, 256, home, 0.2, (1, 2, 3, 10))
                link = Link(self, dice, 16, 16, home, dice.choice((60, 300, 3000)), ground, asked_each=9)
                link.set_link(0.4, 0.2, 6)
                for count in range(160):
                    link.step()
                    if count % 9 == 0:
                        link.avoid_some_cell()
                    link.ticks()
                link.come_through()
                self.assertLessEqual(len(link.live.calls), 2000)
                self.assertTrue(link.live.same_in_one_list())


class ByHand(unittest.TestCase):
    """One message each is lost, doubled or late."""

    START = [rv_start(3, 1, 0, 99, [1, 2, 3]), bs_start(3, 1), STEP]
    RV_TICKS = [TICK] * 5
    BS_TICKS = [PEOPLE_TICK] * 5

    def test_seen_is_lost(self):
        given = told(*self.START, *self.RV_TICKS, people_heard(seen(1, 0, 1)), heard(had(1)), STATE)
        self.assertEqual(given[7:], [[0, 3] + seen(1, 0, 1), [0, 3] + had(1), [0, 3] + seen(2, 1, 2),
                                     [0, 0, 99, 2, 1, 0, 1]])

    def test_had_is_lost(self):
        given = told(*self.START, people_heard(seen(1, 0, 1)), *self.RV_TICKS, people_heard(seen(1, 0, 1)),
                     heard(had(1)), people_heard(seen(2, 1, 2)), PEOPLE_MAP)
        self.assertEqual(given[8:], [[0, 3] + seen(1, 0, 1), [0, 3] + had(1), [0, 3] + seen(2, 1, 2), [0, 3] + had(2),
                                     [2, 1, 2] + [0] * 254])

    def test_seen_and_had_are_doubled(self):
        given = told(*self.START, people_heard(seen(1, 0, 1)), people_heard(seen(1, 0, 1)), heard(had(1)),
                     heard(had(1)), people_heard(seen(2, 1, 2)), heard(had(2)), people_heard(seen(1, 0, 1)),
                     heard(had(1)), STATE, PEOPLE_STATE)
        self.assertEqual(given[3:], [[0, 3] + had(1)] * 2 + [[0, 3] + seen(2, 1, 2), [0], [0, 3] + had(2), [0],
                                     [0, 3] + had(1), [0], [0, 0, 99, 2, 2, 0, 1], [0, 2, 0, 0, 0]])

    def test_keep_out_is_lost(self):
        given = told(*self.START, avoid(2), *self.BS_TICKS, heard(keep_out(1, 2)), people_heard(answered(1, 1)),
                     PEOPLE_STATE)
        self.assertEqual(given[8:], [[0, 3] + keep_out(1, 2), [0, 3] + answered(1, 1), [0], [0, 0, 1, 2, 2]])

    def test_the_answer_is_lost(self):
        # No is said while it stands there; asked again where it would be yes, it's still no.
        given = told(*self.START, STEP, avoid(1), heard(keep_out(1, 1)), STEP, STEP, STEP, STEP, *self.BS_TICKS,
                     heard(keep_out(1, 1)), people_heard(answered(1, 0)), PEOPLE_STATE)
        self.assertEqual(given[3:10], [[2, 1, 1], [1, 3] + keep_out(1, 1), [0, 3] + answered(1, 0), [1, 0, 2, 3],
                                       [2, 1, 2], [3, 1, 1], [3, 1, 0]])
        self.assertEqual(given[14:], [[0, 3] + keep_out(1, 1), [0, 3] + answered(1, 0), [0], [0, 0, 1, 1, 1]])

    def test_a_late_keep_out_with_an_old_number(self):
        given = told(*self.START, avoid(0), heard(keep_out(1, 0)), people_heard(answered(1, 0)), avoid(2),
                     heard(keep_out(2, 2)), heard(keep_out(1, 0)), people_heard(answered(1, 0)), PEOPLE_STATE,
                     people_heard(answered(2, 1)), PEOPLE_STATE)
        self.assertEqual(given[7:], [[0, 3] + answered(2, 1), [0], [0], [0, 0, 2, 2, 0], [0], [0, 0, 2, 2, 2]])
