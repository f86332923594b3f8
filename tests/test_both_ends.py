"""The two ends are apart: a start or a call of one changes nothing of the other."""

import unittest

from helper import (PEOPLE_MAP, PEOPLE_STATE, PEOPLE_TICK, STATE, STEP, TICK, answered, avoid, bs_start, dice_of, had,
                    heard, keep_out, people_heard, rv_start, seen, told)

ROVER_START = rv_start(3, 2, 1, 40, [3, 1, 4, 1, 5, 9])
ROVER_CALLS = [STEP, STATE, heard(had(1)), TICK, STEP, heard(keep_out(1, 5)), heard(keep_out(1, 5)), heard([1]), TICK,
               STEP, STEP, TICK, heard(had(2)), STATE, TICK, TICK, rv_start(3, 0, 0, 1, [1]), STEP, STEP, STATE]
PEOPLE_START = bs_start(3, 2)
PEOPLE_CALLS = [people_heard(seen(1, 0, 3)), PEOPLE_STATE, avoid(5), PEOPLE_TICK, PEOPLE_MAP, PEOPLE_TICK, avoid(6),
                people_heard([]), people_heard(answered(1, 1)), PEOPLE_STATE, avoid(4), PEOPLE_TICK, PEOPLE_TICK,
                people_heard(seen(3, 2, 4)), people_heard(seen(2, 1, 1)), PEOPLE_TICK, avoid(0), bs_start(3, 17),
                PEOPLE_MAP, PEOPLE_STATE]


class Apart(unittest.TestCase):
    def mixed(self, first, second, dice):
        """Answers to both rows of calls, mixed by chance, each row's for itself."""
        rows = [list(first), list(second)]
        calls = []
        while rows[0] or rows[1]:
            which = dice.randrange(2) if rows[0] and rows[1] else int(not rows[0])
            calls.append((which, rows[which].pop(0)))
        given = told(*[call for which, call in calls])
        return [[answer for (which, call), answer in zip(calls, given) if which == one] for one in (0, 1)]

    def ask(self, rover, people):
        for seed in range(30):
            given = self.mixed(rover, people, dice_of(seed))
            self.assertEqual(given, [told(*rover), told(*people)])

    def test_calls(self):
        self.ask([ROVER_START] + ROVER_CALLS, [PEOPLE_START] + PEOPLE_CALLS)

    def test_starts_between(self):
        rover = [ROVER_START] + ROVER_CALLS + [rv_start(1, 4, 0, 9, [2] * 4)] + ROVER_CALLS
        people = [PEOPLE_START] + PEOPLE_CALLS + [bs_start(4, 4)] + PEOPLE_CALLS + [bs_start(2, 3)] + PEOPLE_CALLS
        self.ask(rover, people)
        self.ask(rover, [bs_start(16, 16), avoid(200), PEOPLE_TICK] * 12)
        self.ask([ROVER_START, STEP, STEP, TICK] * 12, people)

    def test_either_alone(self):
        # Neither end waits for the other one's start.
        self.assertEqual(told(PEOPLE_START, PEOPLE_STATE, ROVER_START, STATE)[1::2],
                         [[0, 0, 0, 0, 0], [0, 1, 40, 0, 0, 0, 1]])
        self.assertEqual(told(ROVER_START, STATE, PEOPLE_START, PEOPLE_STATE)[1::2],
                         [[0, 1, 40, 0, 0, 0, 1], [0, 0, 0, 0, 0]])

    def test_nothing_goes_over_by_itself(self):
        given = told(ROVER_START, PEOPLE_START, STEP, avoid(5), PEOPLE_STATE, STATE)
        self.assertEqual(given[4:], [[0, 0, 1, 5, 0], [0, 1, 40, 4, 0, 0, 1]])

    def test_each_end_has_its_own_map(self):
        # The people's map is larger, so it has a cell 5 that the rover hasn't; and the other way round.
        small = rv_start(2, 2, 0, 40, [1, 2, 3, 4])
        given = told(small, bs_start(3, 2), STEP, avoid(5), heard(keep_out(1, 5)), people_heard(seen(1, 5, 9)))
        self.assertEqual(given[3:], [[1, 3] + keep_out(1, 5), [-71], [0, 3] + had(1)])
        given = told(ROVER_START, bs_start(2, 2), STEP, avoid(5), heard(keep_out(1, 5)), people_heard(seen(1, 5, 9)))
        self.assertEqual(given[3:], [[-22], [0, 3] + answered(1, 1), [-71]])

    def test_each_end_counts_its_own_ticks(self):
        calls = [TICK] * 3 + [PEOPLE_TICK] * 4 + [TICK, TICK, PEOPLE_TICK]
        given = told(ROVER_START, PEOPLE_START, STEP, avoid(5), *calls)
        self.assertEqual(given[4:], [[0]] * 8 + [[0, 3] + seen(1, 0, 3), [0, 3] + keep_out(1, 5)])
