"""Point 4, rv_tick, and point 5, rv_state."""

import unittest

from helper import STATE, STEP, TICK, had, heard, keep_out, rv_start, seen, told

START = rv_start(3, 1, 0, 99, [7, 8, 9])


class Ticks(unittest.TestCase):
    def test_each_fifth_sends(self):
        given = told(START, STEP, *[TICK] * 16)[2:]
        for count, answer in enumerate(given, start=1):
            self.assertEqual(answer, [0, 3] + seen(1, 0, 7) if count % 5 == 0 else [0], count)

    def test_nothing_seen_nothing_sent(self):
        given = told(START, *[TICK] * 5, STEP, *[TICK] * 5)
        self.assertEqual(given[1:6], [[0]] * 5)
        self.assertEqual(given[7:], [[0]] * 4 + [[0, 3] + seen(1, 0, 7)])

    def test_the_first_not_known_to_be_had(self):
        given = told(START, STEP, heard(had(1)), *[TICK] * 5, heard(had(2)), *[TICK] * 5)
        self.assertEqual(given[3:8], [[0]] * 4 + [[0, 3] + seen(2, 1, 8)])
        self.assertEqual(given[8:], [[0]] * 6)

    def test_seen_again_something_to_send(self):
        given = told(START, STEP, heard(had(1)), heard(had(2)), *[TICK] * 4, STEP, STEP, TICK)
        self.assertEqual(given[8:], [[2, 1, 1], [1, 0, 2, 9, 3] + seen(3, 2, 9), [0, 3] + seen(3, 2, 9)])

    def test_other_calls_do_not_count(self):
        between = [STATE, STEP, heard([]), heard(keep_out(1, 2)), heard(had(2)), rv_start(0, 1, 0, 1, [1])]
        given = told(START, STEP, *[call for count in range(5) for call in between + [TICK]])
        self.assertEqual(given[8::7], [[0]] * 4 + [[0, 3] + seen(1, 0, 7)])

    def test_counted_from_the_start(self):
        given = told(START, STEP, *[TICK] * 3, START, STEP, *[TICK] * 5)
        self.assertEqual(given[-5:], [[0]] * 4 + [[0, 3] + seen(1, 0, 7)])


class State(unittest.TestCase):
    def test_all_six_numbers(self):
        given = told(rv_start(3, 2, 4, 500, [1, 20, 3, 40, 5, 60]), STATE, STEP, STATE, STEP, STATE, STEP, STATE,
                     heard(had(1)), heard(had(2)), STATE, heard(keep_out(1, 3)), STATE, STEP, STATE)
        self.assertEqual(given[1], [0, 4, 500, 0, 0, 0, 1])
        self.assertEqual(given[3], [0, 4, 500, 4, 0, 0, 1])
        self.assertEqual(given[5], [0, 1, 480, 4, 0, 0, 2])
        self.assertEqual(given[7], [0, 1, 480, 6, 0, 0, 2])
        self.assertEqual(given[10], [0, 1, 480, 6, 2, 0, 2])
        self.assertEqual(given[12], [0, 1, 480, 6, 2, 1, 2])
        self.assertEqual(given[14], [0, 0, 479, 6, 2, 1, 3])

    def test_a_cell_gone_into_twice_counts_once(self):
        given = told(START, *[STEP] * 30, STATE)
        self.assertEqual(given[-1], [0, 0, 99, 3, 0, 0, 3])

    def test_the_most_room(self):
        given = told(rv_start(2, 1, 1, 65535, [200, 200]), STATE, STEP, STEP, STATE)
        self.assertEqual(given[1], [0, 1, 65535, 0, 0, 0, 1])
        self.assertEqual(given[4], [0, 0, 65335, 2, 0, 0, 2])

    def test_asking_changes_nothing(self):
        self.assertEqual(told(START, STEP, STATE, STATE, STATE)[2:], [[0, 0, 99, 2, 0, 0, 1]] * 3)
