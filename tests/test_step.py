"""Point 2: rv_step."""

import unittest

from helper import STATE, STEP, TICK, answered, had, heard, keep_out, rv_start, seen, steps_until_nothing, told


def path(start):
    """The cells the rover goes to until there's nothing to do."""
    return [answer[2] for answer in steps_until_nothing(start) if answer[0] in (2, 3)]


class Looking(unittest.TestCase):
    def test_home_and_its_neighbours_rising(self):
        given = told(rv_start(3, 3, 4, 9, [11, 12, 13, 14, 15, 255, 17, 18, 19]), STEP, STATE)
        self.assertEqual(given[1], [1, 0, 1, 12, 3] + seen(1, 1, 12) + [0, 3, 14, 0, 4, 15, 0, 5, 255, 0, 7, 18])
        self.assertEqual(given[2], [0, 4, 9, 5, 0, 0, 1])

    def test_corners_have_two_neighbours(self):
        ground = [1] * 12
        for home, cells in ((0, [0, 1, 4]), (3, [2, 3, 7]), (8, [4, 8, 9]), (11, [7, 10, 11]), (4, [0, 4, 5, 8])):
            step = told(rv_start(4, 3, home, 9, ground), STEP)[1]
            done = step[1:4] + step[13:]
            self.assertEqual(done, [number for cell in cells for number in (0, cell, 1)])

    def test_only_what_is_not_known(self):
        given = told(rv_start(4, 1, 0, 99, [1, 2, 3, 4]), *[STEP] * 4)
        self.assertEqual(given[2], [2, 1, 1])
        self.assertEqual(given[3], [1, 0, 2, 3])
        self.assertEqual(given[4], [2, 1, 2])

    def test_seen_is_sent_of_the_first_not_known_to_be_had_alone(self):
        start = rv_start(4, 1, 0, 99, [1, 2, 3, 4])
        given = told(start, STEP, heard(had(1)), heard(had(2)), STEP, STEP)
        self.assertEqual(given[5], [1, 0, 2, 3, 3] + seen(3, 2, 3))
        given = told(start, STEP, heard(had(1)), STEP, STEP)
        self.assertEqual(given[4], [1, 0, 2, 3])

    def test_cell_and_cost_edges(self):
        given = told(rv_start(16, 16, 255, 9, [200] * 255 + [1]), STEP)
        self.assertEqual(given[1], [1, 0, 239, 200, 3] + seen(1, 239, 200) + [0, 254, 200, 0, 255, 1])


class Going(unittest.TestCase):
    def test_out_home_charged_nothing(self):
        given = told(rv_start(2, 1, 0, 20, [3, 5]), STEP, STEP, STATE, STEP, STATE, STEP, STATE, STEP, STEP, STATE)
        self.assertEqual(given[1], [1, 0, 0, 3, 3] + seen(1, 0, 3) + [0, 1, 5])
        self.assertEqual(given[2:4], [[2, 1, 1], [0, 1, 15, 2, 0, 0, 2]])
        self.assertEqual(given[4:6], [[3, 1, 0], [0, 0, 12, 2, 0, 0, 2]])
        self.assertEqual(given[6:8], [[4, 2], [0, 0, 20, 2, 0, 0, 2]])
        self.assertEqual(given[8:], [[0], [0], [0, 0, 20, 2, 0, 0, 2]])

    def test_left_just_enough(self):
        self.assertEqual(path(rv_start(2, 1, 0, 8, [3, 5])), [1, 0])
        self.assertEqual(path(rv_start(2, 1, 0, 7, [3, 5])), [])

    def test_left_just_enough_comes_down_to_nothing(self):
        given = told(rv_start(2, 1, 0, 8, [3, 5]), STEP, STEP, STEP, STATE, STEP, STEP)
        self.assertEqual(given[3:], [[3, 1, 0], [0, 0, 0, 2, 0, 0, 2], [4, 2], [0]])

    def test_left_just_enough_farther_out(self):
        # 1 + 2 + 3 there, 2 + 1 + 9 back.
        self.assertEqual(path(rv_start(4, 1, 0, 18, [9, 1, 2, 3])), [1, 2, 3, 2, 1, 0])
        self.assertEqual(path(rv_start(4, 1, 0, 17, [9, 1, 2, 3])), [1, 2, 1, 0])

    def test_the_way_there_is_cheaper_than_the_way_back(self):
        self.assertEqual(path(rv_start(2, 1, 1, 201, [1, 200])), [0, 1])
        self.assertEqual(path(rv_start(2, 1, 1, 200, [1, 200])), [])
        self.assertEqual(path(rv_start(2, 1, 1, 201, [200, 1])), [0, 1])
        self.assertEqual(path(rv_start(2, 1, 1, 200, [200, 1])), [])

    def test_both_ways_together(self):
        # To 3 it's 1 + 5, from there home 1 + 1.
        self.assertIn(3, path(rv_start(2, 2, 0, 8, [1, 1, 1, 5])))
        self.assertNotIn(3, path(rv_start(2, 2, 0, 7, [1, 1, 1, 5])))

    def test_the_nearest_cell_may_be_too_far_from_home(self):
        # At 1 it's 3 to 0 and 5 + 1 from there home; to 3 it's 1 + 5, but only 1 from there home.
        self.assertEqual(path(rv_start(4, 1, 2, 13, [3, 5, 1, 5])), [1, 2, 3, 2])
        self.assertEqual(path(rv_start(4, 1, 2, 14, [3, 5, 1, 5])), [1, 0, 1, 2, 3, 2])

    def test_closed_cells_are_not_entered(self):
        self.assertEqual(path(rv_start(3, 1, 1, 99, [255, 7, 255])), [])
        self.assertEqual(path(rv_start(3, 1, 0, 65535, [7, 255, 7])), [])
        self.assertEqual(path(rv_start(2, 1, 0, 65535, [200, 200])), [1, 0])

    def test_one_cell(self):
        self.assertEqual(told(rv_start(1, 1, 0, 9, [7]), STEP, STEP)[1:], [[1, 0, 0, 7, 3] + seen(1, 0, 7), [0]])

    def test_one_row(self):
        self.assertEqual(path(rv_start(5, 1, 2, 99, [1, 1, 1, 1, 1])), [1, 0, 1, 2, 3, 4, 3, 2])

    def test_one_column(self):
        self.assertEqual(path(rv_start(1, 5, 2, 99, [1, 1, 1, 1, 1])), [1, 0, 1, 2, 3, 4, 3, 2])

    def test_a_row_is_no_ring(self):
        # The last cell of a row is no neighbour of the first of the row below.
        self.assertEqual(path(rv_start(3, 2, 2, 99, [255, 255, 1, 1, 255, 255])), [])
        self.assertEqual(path(rv_start(3, 2, 3, 99, [255, 255, 1, 1, 255, 255])), [])

    def test_charged_only_at_home_with_no_goal(self):
        given = [answer[0] for answer in steps_until_nothing(rv_start(3, 1, 1, 3, [1, 1, 1]))]
        self.assertEqual(given, [1, 2, 3, 4, 2, 3, 4, 0])


class WhichGoal(unittest.TestCase):
    def test_the_one_to_which_it_takes_least(self):
        self.assertEqual(path(rv_start(3, 1, 1, 99, [3, 1, 2]))[0], 2)
        self.assertEqual(path(rv_start(3, 1, 1, 99, [2, 1, 3]))[0], 0)

    def test_of_several_the_least(self):
        self.assertEqual(path(rv_start(3, 1, 1, 99, [2, 1, 2]))[0], 0)
        self.assertEqual(path(rv_start(3, 3, 4, 99, [9, 2, 9, 2, 1, 2, 9, 2, 9]))[0], 1)

    def test_of_several_the_least_even_if_it_is_more_cells_away(self):
        # At 2: to 0 it's 1 + 3, to 3 it's 4.
        self.assertEqual(path(rv_start(4, 1, 1, 99, [3, 1, 1, 4])), [2, 1, 0, 1, 2, 3, 2, 1])

    def test_what_it_takes_home_does_not_choose(self):
        # At 1 it's 3 to 0 and 6 from there home, 6 to 3 and 1 from there home.
        self.assertEqual(path(rv_start(4, 1, 2, 99, [3, 5, 1, 5]))[:2], [1, 0])

    def test_where_it_has_been_is_no_goal(self):
        self.assertEqual(path(rv_start(2, 2, 0, 99, [1, 1, 1, 1])), [1, 3, 2, 0])


class TheWay(unittest.TestCase):
    def test_the_least_row_of_those_as_long(self):
        # Last it goes from 3 home to 0, by 1 or by 2.
        self.assertEqual(path(rv_start(2, 2, 0, 99, [1, 1, 1, 5])), [1, 0, 2, 3, 1, 0])
        self.assertEqual(path(rv_start(2, 2, 3, 99, [5, 1, 1, 1])), [1, 3, 2, 0, 1, 3])

    def test_fewer_cells_go_before_a_lesser_row(self):
        # From 3 home to 5 it's as far by 4 (3) as by 0, 1, 2 (1 each).
        self.assertEqual(path(rv_start(3, 2, 5, 99, [1, 1, 1, 5, 3, 1]))[-3:], [3, 4, 5])

    def test_less_goes_before_fewer_cells(self):
        self.assertEqual(path(rv_start(3, 2, 5, 99, [1, 1, 1, 7, 4, 1]))[-5:], [3, 0, 1, 2, 5])

    def test_the_least_row_to_a_goal(self):
        # 3 is in reach with all of the room alone, from home, by 1 or by 2.
        self.assertEqual(path(rv_start(2, 2, 0, 12, [1, 1, 1, 9])), [1, 0, 2, 0, 1, 3, 1, 0])


class ClosedHome(unittest.TestCase):
    def test_it_looks_and_stays(self):
        given = told(rv_start(3, 1, 1, 99, [5, 255, 5]), STEP, STEP, STEP, STATE)
        self.assertEqual(given[1], [1, 0, 0, 5, 3] + seen(1, 0, 5) + [0, 1, 255, 0, 2, 5])
        self.assertEqual(given[2:], [[0], [0], [0, 1, 99, 3, 0, 0, 1]])

    def test_one_closed_cell(self):
        given = told(rv_start(1, 1, 0, 1, [255]), STEP, STEP)
        self.assertEqual(given[1:], [[1, 0, 0, 255, 3] + seen(1, 0, 255), [0]])


class KeptOut(unittest.TestCase):
    def test_a_cell_kept_out_of_is_no_goal(self):
        given = told(rv_start(3, 1, 1, 99, [1, 1, 1]), STEP, heard(keep_out(1, 0)), *[STEP] * 4)
        self.assertEqual(given[2:], [[0, 3] + answered(1, 1), [2, 1, 2], [3, 1, 1], [4, 2], [0]])

    def test_no_way_goes_by_it(self):
        # Home 0; with 1 kept out of, 2 is reached by the row below.
        given = told(rv_start(3, 2, 0, 99, [1, 1, 1, 5, 5, 5]), STEP, heard(keep_out(1, 1)), *[STEP] * 20)
        went = [answer[2] for answer in given[3:] if answer[0] in (2, 3)]
        self.assertEqual(went, [3, 4, 5, 2, 5, 4, 3, 0])

    def test_seen_later_it_is_still_kept_out_of(self):
        given = told(rv_start(3, 1, 0, 99, [1, 1, 1]), STEP, heard(keep_out(1, 2)), *[STEP] * 5)
        self.assertEqual(given[2:], [[0, 3] + answered(1, 1), [2, 1, 1], [1, 0, 2, 1], [3, 1, 0], [4, 2], [0]])

    def test_the_way_home_from_a_goal_is_not_by_it(self):
        # At 2, kept out of 1, it's 31 home by the row below. To 3 it's 1, and 32 from there home.
        for room, cell in ((34, 6), (35, 3)):
            start = rv_start(4, 2, 0, room, [1, 1, 1, 1, 10, 10, 10, 10])
            given = told(start, *[STEP] * 5, heard(keep_out(1, 1)), STEP)
            self.assertEqual(given[4:5] + given[6:], [[2, 1, 2], [0, 3] + answered(1, 1), [2, 1, cell]])

    def test_the_way_home_takes_all_that_is_left(self):
        # At 2, kept out of 1, it's 151 home by the row below.
        start = rv_start(3, 2, 0, 153, [1, 1, 1, 50, 50, 50])
        given = told(start, *[STEP] * 5, heard(keep_out(1, 1)), *[STEP] * 6)
        self.assertEqual(given[6:], [[0, 3] + answered(1, 1), [2, 1, 5], [2, 1, 4], [2, 1, 3], [3, 1, 0], [4, 2], [0]])

    def test_the_way_there_is_not_by_it(self):
        # Kept out of 1 from the first, only 3 is in reach: it's 151 to 4 and home.
        start = rv_start(3, 2, 0, 104, [1, 1, 1, 50, 50, 50])
        given = told(start, STEP, heard(keep_out(1, 1)), *[STEP] * 6)
        self.assertEqual(given[3:], [[2, 1, 3], [1, 0, 4, 50], [3, 1, 0], [4, 2], [0], [0]])

    def test_shut_in_at_home_it_stays(self):
        given = told(rv_start(2, 1, 0, 99, [1, 1]), STEP, heard(keep_out(1, 1)), STEP)
        self.assertEqual(given[2:], [[0, 3] + answered(1, 1), [0]])


class Between(unittest.TestCase):
    def test_ticks_and_states_change_no_step(self):
        start = rv_start(3, 3, 4, 30, [3, 1, 4, 1, 5, 9, 2, 6, 5])
        alone = told(start, *[STEP] * 40)
        mixed = told(start, *[call for step in range(40) for call in (TICK, STATE, STEP)])
        self.assertEqual(mixed[3::3], alone[1:])
