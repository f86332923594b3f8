"""Point 1, rv_start, and of point 6 bs_start."""

import unittest

from helper import MOST, STATE, STEP, TICK, bs_start, had, heard, keep_out, rv_start, seen, told


class RoverStart(unittest.TestCase):
    def ask(self, width, height, home, room):
        return told(rv_start(width, height, home, room, [1] * 256))[0]

    def test_ordinary(self):
        self.assertEqual(self.ask(4, 3, 5, 100), [0])

    def test_width(self):
        for width, wanted in ((0, -22), (1, 0), (2, 0), (15, 0), (16, 0), (17, -22), (MOST, -22)):
            self.assertEqual(self.ask(width, 2, 0, 9), [wanted], width)

    def test_height(self):
        for height, wanted in ((0, -22), (1, 0), (2, 0), (15, 0), (16, 0), (17, -22), (MOST, -22)):
            self.assertEqual(self.ask(2, height, 0, 9), [wanted], height)

    def test_home_is_a_cell(self):
        for width, height in ((1, 1), (1, 16), (16, 1), (3, 5), (16, 16)):
            last = width * height - 1
            self.assertEqual(self.ask(width, height, last, 9), [0])
            self.assertEqual(self.ask(width, height, last + 1, 9), [-22])
            self.assertEqual(self.ask(width, height, MOST, 9), [-22])

    def test_room(self):
        for room, wanted in ((0, -22), (1, 0), (65535, 0), (65536, -22), (MOST, -22)):
            self.assertEqual(self.ask(3, 3, 4, room), [wanted], room)

    def test_all_is_as_at_first(self):
        given = told(rv_start(4, 3, 5, 100, [1] * 12), STATE)
        self.assertEqual(given[1], [0, 5, 100, 0, 0, 0, 1])

    def test_numbers_behind_the_last_cell_do_not_count(self):
        calls = [STEP] * 30 + [STATE]
        first = told(rv_start(3, 2, 1, 50, [4, 2, 9, 255, 1, 3], behind=255), *calls)
        for behind in (1, 200):
            again = told(rv_start(3, 2, 1, 50, [4, 2, 9, 255, 1, 3], behind=behind), *calls)
            self.assertEqual(again, first)

    def test_another_start_begins_anew(self):
        start = rv_start(2, 2, 0, 50, [1, 2, 3, 4])
        before = [start, STEP, STEP, heard(keep_out(1, 2)), heard(had(1)), STEP, TICK, TICK, TICK, STATE]
        anew = [rv_start(1, 3, 2, 60, [5, 6, 7]), STATE, STEP, STEP, heard(keep_out(1, 0)), heard(had(1)),
                TICK, TICK, TICK, TICK, TICK, STEP, STATE]
        self.assertEqual(told(*before, *anew)[len(before):], told(*anew))
        self.assertEqual(told(*before)[-1], [0, 1, 48, 4, 1, 1, 2])

    def test_a_refused_start_changes_nothing(self):
        start = rv_start(2, 2, 0, 50, [1, 2, 3, 4])
        calls = [STEP, STEP, heard(keep_out(1, 2)), heard(had(1)), TICK, TICK, TICK, STATE]
        rest = [STATE, TICK, TICK, STEP, heard(keep_out(1, 2)), STATE]
        whole = told(start, *calls, *rest)
        for wrong in (rv_start(0, 2, 0, 50, [9] * 4), rv_start(2, 17, 0, 50, [9] * 4),
                      rv_start(2, 2, 4, 50, [9] * 4), rv_start(2, 2, 0, 0, [9] * 4),
                      rv_start(2, 2, 0, 65536, [9] * 4)):
            given = told(start, *calls, wrong, *rest)
            self.assertEqual(given[1 + len(calls)], [-22])
            self.assertEqual(given[:1 + len(calls)] + given[2 + len(calls):], whole)

    def test_a_start_behind_a_refused_one(self):
        given = told(rv_start(0, 0, 0, 0, []), rv_start(1, 1, 0, 3, [8]), STEP)
        self.assertEqual(given, [[-22], [0], [1, 0, 0, 8, 3] + seen(1, 0, 8)])


class PeoplesStart(unittest.TestCase):
    def test_edges(self):
        for side, wanted in ((0, -22), (1, 0), (2, 0), (15, 0), (16, 0), (17, -22), (MOST, -22)):
            self.assertEqual(told(bs_start(side, 1)), [[wanted]], side)
            self.assertEqual(told(bs_start(1, side)), [[wanted]], side)
            self.assertEqual(told(bs_start(side, 16)), [[wanted]], side)
            self.assertEqual(told(bs_start(16, side)), [[wanted]], side)

    def test_another_start_may_come(self):
        self.assertEqual(told(bs_start(3, 4), bs_start(17, 4), bs_start(16, 16)), [[0], [-22], [0]])

    def test_it_leaves_the_rover_alone(self):
        start = rv_start(2, 2, 0, 50, [1, 2, 3, 4])
        calls = [STEP, STEP, TICK, STEP, heard(had(1)), STATE]
        given = told(bs_start(1, 1), start, *[call for step in calls for call in (bs_start(9, 9), step)])
        self.assertEqual(given[1:2] + given[3::2], told(start, *calls))
        self.assertEqual(given[2::2], [[0]] * len(calls))
