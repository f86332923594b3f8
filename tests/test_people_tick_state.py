"""Point 8, bs_tick, and point 9, bs_map and bs_state."""

import unittest

from helper import (PEOPLE_MAP, PEOPLE_STATE, PEOPLE_TICK, answered, avoid, bs_start, keep_out, people_heard, seen,
                    told)

START = bs_start(3, 2)
NOUGHTS = [0] * 256


class Ticks(unittest.TestCase):
    def test_each_fifth_sends(self):
        given = told(START, avoid(4), *[PEOPLE_TICK] * 16)[2:]
        for count, answer in enumerate(given, start=1):
            self.assertEqual(answer, [0, 3] + keep_out(1, 4) if count % 5 == 0 else [0], count)

    def test_no_keep_out_nothing_sent(self):
        given = told(START, people_heard(seen(1, 4, 9)), *[PEOPLE_TICK] * 10)
        self.assertEqual(given[2:], [[0]] * 10)

    def test_answered_nothing_sent(self):
        for yes in (0, 1):
            given = told(START, avoid(4), people_heard(answered(1, yes)), *[PEOPLE_TICK] * 10)
            self.assertEqual(given[3:], [[0]] * 10)

    def test_another_ones_answer_stops_nothing(self):
        given = told(START, avoid(4), people_heard(answered(2, 1)), *[PEOPLE_TICK] * 5)
        self.assertEqual(given[3:], [[0]] * 4 + [[0, 3] + keep_out(1, 4)])

    def test_the_last_keep_out(self):
        given = told(START, avoid(4), people_heard(answered(1, 1)), avoid(5), *[PEOPLE_TICK] * 5,
                     people_heard(answered(2, 0)), *[PEOPLE_TICK] * 5, avoid(0), *[PEOPLE_TICK] * 5)
        self.assertEqual(given[4:9], [[0]] * 4 + [[0, 3] + keep_out(2, 5)])
        self.assertEqual(given[10:15], [[0]] * 5)
        self.assertEqual(given[16:], [[0]] * 4 + [[0, 3] + keep_out(3, 0)])

    def test_counted_from_the_start_not_from_the_keep_out(self):
        for before in range(1, 12):
            given = told(START, *[PEOPLE_TICK] * before, avoid(4), *[PEOPLE_TICK] * 10)[2 + before:]
            sent = [count for count, answer in enumerate(given, start=before + 1) if answer != [0]]
            self.assertEqual(sent, [count for count in range(before + 1, before + 11) if count % 5 == 0])

    def test_other_calls_do_not_count(self):
        between = [PEOPLE_STATE, PEOPLE_MAP, people_heard([]), people_heard(seen(1, 2, 3)), avoid(9), avoid(1),
                   bs_start(0, 1)]
        given = told(START, avoid(4), *[call for count in range(5) for call in between + [PEOPLE_TICK]])
        self.assertEqual(given[9::8], [[0]] * 4 + [[0, 3] + keep_out(1, 4)])

    def test_a_start_begins_the_count_anew(self):
        for before in range(1, 10):
            given = told(START, avoid(4), *[PEOPLE_TICK] * before, START, avoid(2), *[PEOPLE_TICK] * 5)
            self.assertEqual(given[-5:], [[0]] * 4 + [[0, 3] + keep_out(1, 2)], before)

    def test_sending_is_no_keep_out_anew(self):
        given = told(START, avoid(4), *[PEOPLE_TICK] * 5, PEOPLE_STATE, people_heard(answered(1, 1)), PEOPLE_STATE)
        self.assertEqual(given[7:], [[0, 0, 1, 4, 0], [0], [0, 0, 1, 4, 2]])


class Map(unittest.TestCase):
    def test_nothing_told(self):
        for width, height in ((1, 1), (3, 2), (16, 16)):
            self.assertEqual(told(bs_start(width, height), PEOPLE_MAP)[1], [0] + NOUGHTS)

    def test_a_small_map(self):
        calls = [people_heard(seen(number, cell, cost)) for number, cell, cost in ((1, 1, 20), (2, 5, 255), (3, 2, 1))]
        given = told(START, *calls, PEOPLE_MAP)
        self.assertEqual(given[-1], [3, 0, 20, 1, 0, 0, 255] + [0] * 250)

    def test_one_cell(self):
        given = told(bs_start(1, 1), people_heard(seen(1, 0, 200)), PEOPLE_MAP)
        self.assertEqual(given[-1], [1, 200] + [0] * 255)

    def test_the_largest_map(self):
        given = told(bs_start(16, 16), people_heard(seen(1, 255, 9)), people_heard(seen(2, 16, 8)), PEOPLE_MAP)
        self.assertEqual(given[-1], [2] + [0] * 16 + [8] + [0] * 238 + [9])

    def test_how_many_were_told_is_not_how_many_cells(self):
        calls = [people_heard(seen(number, 3, number)) for number in range(1, 11)]
        self.assertEqual(told(START, *calls, PEOPLE_MAP)[-1], [10, 0, 0, 0, 10] + [0] * 252)

    def test_what_is_given_back_is_no_part_of_the_map(self):
        given = told(START, PEOPLE_MAP, people_heard(seen(1, 3, 9)), PEOPLE_MAP, PEOPLE_MAP)
        self.assertEqual(given[1], [0] + NOUGHTS)
        self.assertEqual(given[3:], [[1, 0, 0, 0, 9] + [0] * 252] * 2)


class State(unittest.TestCase):
    def test_all_four_numbers(self):
        given = told(START, PEOPLE_STATE, people_heard(seen(1, 2, 9)), PEOPLE_STATE, avoid(4), PEOPLE_STATE,
                     people_heard(answered(1, 0)), PEOPLE_STATE, avoid(5), PEOPLE_STATE,
                     people_heard(seen(2, 3, 9)), people_heard(answered(2, 1)), PEOPLE_STATE, avoid(0), PEOPLE_STATE)
        self.assertEqual(given[1], [0, 0, 0, 0, 0])
        self.assertEqual(given[3], [0, 1, 0, 0, 0])
        self.assertEqual(given[5], [0, 1, 1, 4, 0])
        self.assertEqual(given[7], [0, 1, 1, 4, 1])
        self.assertEqual(given[9], [0, 1, 2, 5, 0])
        self.assertEqual(given[12], [0, 2, 2, 5, 2])
        self.assertEqual(given[14], [0, 2, 3, 0, 0])

    def test_the_last_cell_of_the_largest_map(self):
        given = told(bs_start(16, 16), avoid(255), PEOPLE_STATE)
        self.assertEqual(given[-1], [0, 0, 1, 255, 0])

    def test_asking_changes_nothing(self):
        asked = [PEOPLE_STATE, PEOPLE_MAP] * 3
        given = told(START, people_heard(seen(1, 2, 9)), avoid(4), *asked)
        self.assertEqual(given[3:], [[0, 1, 1, 4, 0], [1, 0, 0, 9] + [0] * 253] * 3)


class Anew(unittest.TestCase):
    BEFORE = [START, people_heard(seen(1, 2, 9)), people_heard(seen(2, 5, 8)), avoid(4), PEOPLE_TICK, PEOPLE_TICK]

    def test_another_start_begins_anew(self):
        anew = [bs_start(2, 4), PEOPLE_STATE, PEOPLE_MAP, people_heard(seen(2, 5, 8)), people_heard(answered(1, 1)),
                *[PEOPLE_TICK] * 5, avoid(7), avoid(6), *[PEOPLE_TICK] * 5, people_heard(seen(1, 7, 3)),
                people_heard(answered(1, 1)), PEOPLE_STATE, PEOPLE_MAP]
        for more in ([], [people_heard(answered(1, 0))], [people_heard(answered(1, 1))]):
            before = self.BEFORE + more
            self.assertEqual(told(*before, *anew)[len(before):], told(*anew))
        self.assertEqual(told(*anew)[1:3], [[0, 0, 0, 0, 0], [0] + NOUGHTS])

    def test_a_refused_start_changes_nothing(self):
        behind = [PEOPLE_STATE, PEOPLE_MAP, *[PEOPLE_TICK] * 5, people_heard(seen(3, 1, 3)), avoid(6), avoid(1),
                  people_heard(answered(1, 1)), PEOPLE_STATE, PEOPLE_MAP]
        for wrong in (bs_start(0, 2), bs_start(3, 0), bs_start(17, 2), bs_start(3, 17), bs_start(4294967295, 1)):
            given = told(*self.BEFORE, wrong, *behind)
            self.assertEqual(given[len(self.BEFORE)], [-22])
            self.assertEqual(given[:len(self.BEFORE)] + given[len(self.BEFORE) + 1:], told(*self.BEFORE, *behind))
