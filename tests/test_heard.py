"""Point 3: rv_heard."""

import unittest

from helper import STATE, STEP, TICK, answered, done, had, heard, keep_out, rv_start, seen, told

START = rv_start(3, 2, 0, 99, [1, 2, 3, 4, 5, 6])


class NotAsTold(unittest.TestCase):
    def refused(self, m):
        before = [START, STEP, heard(keep_out(1, 2)), heard(had(1))]
        behind = [STATE, STEP, heard(keep_out(2, 5)), heard(had(2)), TICK, TICK, TICK, TICK, TICK, STATE]
        given = told(*before, heard(m), *behind)
        self.assertEqual(given[4], [-71], m)
        self.assertEqual(given[:4] + given[5:], told(*before, *behind), m)

    def test_every_length_but_eight(self):
        for m in (keep_out(2, 1), had(2)):
            for length in range(13):
                if length != 8:
                    self.refused((m + [0] * 4)[:length])

    def test_each_byte_that_must_be_0(self):
        for place in (1, 5, 6, 7):
            for value in (1, 255):
                self.refused(keep_out(2, 1)[:place] + [value] + keep_out(2, 1)[place + 1:])
        for place in (1, 4, 5, 6, 7):
            for value in (1, 255):
                self.refused(had(2)[:place] + [value] + had(2)[place + 1:])

    def test_other_kinds(self):
        for kind in (0, 3, 4, 5, 128, 255):
            self.refused([kind, 0, 2, 0, 0, 0, 0, 0])
            self.refused([kind, 0, 2, 0, 1, 0, 0, 0])
        self.refused(seen(2, 1, 2))
        self.refused(answered(1, 1))

    def test_number_nought(self):
        self.refused(keep_out(0, 1))
        self.refused(had(0))

    def test_no_such_cell(self):
        self.refused(keep_out(2, 6))
        self.refused(keep_out(2, 255))
        self.assertEqual(told(START, STEP, heard(keep_out(1, 5)))[2], [0, 3] + answered(1, 1))

    def test_no_such_cell_on_larger_maps(self):
        big = rv_start(16, 15, 0, 99, [1] * 240)
        self.assertEqual(told(big, STEP, heard(keep_out(1, 239)), heard(keep_out(2, 240)))[2:],
                         [[0, 3] + answered(1, 1), [-71]])
        full = rv_start(16, 16, 0, 99, [1] * 256)
        self.assertEqual(told(full, STEP, heard(keep_out(1, 255)))[2], [0, 3] + answered(1, 1))

    def test_an_old_number_is_no_cover_for_a_wrong_cell(self):
        self.refused(keep_out(1, 6))
        self.refused(keep_out(9, 6))


class KeepOutNumbers(unittest.TestCase):
    def test_the_next_one(self):
        given = told(START, STEP, heard(keep_out(1, 1)), STATE, heard(keep_out(2, 3)), STATE)
        self.assertEqual(given[2:], [[0, 3] + answered(1, 1), [0, 0, 99, 3, 0, 1, 1],
                                     [0, 3] + answered(2, 1), [0, 0, 99, 3, 0, 2, 1]])

    def test_the_last_one_again_is_answered_again(self):
        given = told(START, STEP, heard(keep_out(1, 1)), heard(keep_out(1, 1)), heard(keep_out(2, 0)),
                     heard(keep_out(2, 0)), STATE)
        self.assertEqual(given[2:], [[0, 3] + answered(1, 1)] * 2 + [[0, 3] + answered(2, 0)] * 2
                         + [[0, 0, 99, 3, 0, 2, 1]])

    def test_the_last_ones_number_with_another_cell_changes_nothing(self):
        given = told(START, STEP, heard(keep_out(1, 0)), heard(keep_out(1, 1)), STEP)
        self.assertEqual(given[2:], [[0, 3] + answered(1, 0), [0, 3] + answered(1, 0), [2, 1, 1]])
        given = told(START, STEP, heard(keep_out(1, 3)), heard(keep_out(1, 1)), STEP)
        self.assertEqual(given[2:], [[0, 3] + answered(1, 1), [0, 3] + answered(1, 1), [2, 1, 1]])

    def test_the_last_ones_answer_stays_as_it_was(self):
        # Said no to while home wasn't known, or while it stood there: a late double hears no again.
        given = told(START, heard(keep_out(1, 1)), STEP, heard(keep_out(1, 1)), STEP)
        self.assertEqual(given[1::2], [[0, 3] + answered(1, 0)] * 2)
        self.assertEqual(given[4], [2, 1, 1])
        one_row = rv_start(2, 1, 0, 99, [1, 1])
        given = told(one_row, STEP, STEP, heard(keep_out(1, 1)), STEP, heard(keep_out(1, 1)))
        self.assertEqual(given[3:], [[0, 3] + answered(1, 0), [3, 1, 0], [0, 3] + answered(1, 0)])

    def test_a_late_one_with_an_old_number(self):
        given = told(START, STEP, heard(keep_out(1, 5)), heard(keep_out(2, 4)), heard(keep_out(1, 1)), STATE, STEP)
        self.assertEqual(given[4:], [[0], [0, 0, 99, 3, 0, 2, 1], [2, 1, 1]])

    def test_one_too_early(self):
        given = told(START, STEP, heard(keep_out(2, 1)), STATE, STEP)
        self.assertEqual(given[2:], [[0], [0, 0, 99, 3, 0, 0, 1], [2, 1, 1]])
        self.assertEqual(told(START, STEP, heard(keep_out(256, 1)))[2], [0])
        self.assertEqual(told(START, STEP, heard(keep_out(65535, 1)))[2], [0])

    def test_both_bytes_of_the_number(self):
        calls = [heard(keep_out(number, 5)) for number in range(1, 301)]
        given = told(START, STEP, *calls, heard(keep_out(44, 5)), STATE)
        self.assertEqual(given[2:302], [[0, 3] + answered(number, 1) for number in range(1, 301)])
        self.assertEqual(given[302:], [[0], [0, 0, 99, 3, 0, 300, 1]])


class YesAndNo(unittest.TestCase):
    def test_no_while_home_is_not_known(self):
        given = told(START, heard(keep_out(1, 1)), STATE, STEP, STEP)
        self.assertEqual(given[1:3], [[0, 3] + answered(1, 0), [0, 0, 99, 0, 0, 1, 1]])
        self.assertEqual(given[4], [2, 1, 1])

    def test_no_if_home_is_closed(self):
        given = told(rv_start(2, 1, 0, 99, [255, 1]), STEP, heard(keep_out(1, 1)))
        self.assertEqual(given[2], [0, 3] + answered(1, 0))

    def test_no_to_home(self):
        given = told(START, STEP, heard(keep_out(1, 0)), STEP, heard(keep_out(2, 0)))
        self.assertEqual(given[2:], [[0, 3] + answered(1, 0), [2, 1, 1], [0, 3] + answered(2, 0)])

    def test_no_to_its_place(self):
        given = told(START, STEP, STEP, heard(keep_out(1, 1)))
        self.assertEqual(given[2:], [[2, 1, 1], [0, 3] + answered(1, 0)])

    def test_no_if_the_way_home_is_by_it(self):
        row = rv_start(3, 1, 0, 99, [1, 1, 1])
        given = told(row, STEP, STEP, STEP, STEP, heard(keep_out(1, 1)), STEP)
        self.assertEqual(given[4:], [[2, 1, 2], [0, 3] + answered(1, 0), [3, 1, 1]])

    def test_another_way_home_must_be_known(self):
        # At 2, the way home that isn't by 1 is by 5, which it has yet to see.
        start = rv_start(3, 2, 0, 99, [1, 2, 1, 9, 9, 9])
        given = told(start, *[STEP] * 4, heard(keep_out(1, 1)), STEP, heard(keep_out(2, 1)))
        self.assertEqual(given[4:], [[2, 1, 2], [0, 3] + answered(1, 0), [1, 0, 5, 9], [0, 3] + answered(2, 1)])

    def test_the_other_way_home_takes_at_most_what_is_left(self):
        for room, yes in ((152, 0), (153, 1), (154, 1)):
            start = rv_start(3, 2, 0, room, [1, 1, 1, 50, 50, 50])
            given = told(start, *[STEP] * 5, STATE, heard(keep_out(1, 1)))
            self.assertEqual(given[6:], [[0, 2, room - 2, 6, 0, 0, 3], [0, 3] + answered(1, yes)])

    def test_a_cell_that_is_not_known(self):
        given = told(START, STEP, heard(keep_out(1, 5)))
        self.assertEqual(given[2], [0, 3] + answered(1, 1))

    def test_a_closed_cell_and_one_kept_out_of_already(self):
        start = rv_start(3, 1, 1, 99, [255, 1, 1])
        given = told(start, STEP, heard(keep_out(1, 0)), heard(keep_out(2, 2)), heard(keep_out(3, 2)), STEP)
        self.assertEqual(given[2:], [[0, 3] + answered(1, 1), [0, 3] + answered(2, 1), [0, 3] + answered(3, 1), [0]])

    def test_cells_kept_out_of_before_count(self):
        # Home 0, the rover at 2: the one way home is shut first, so the other must stay.
        start = rv_start(3, 2, 0, 99, [1, 1, 1, 1, 1, 1])
        for first, second in ((1, 4), (4, 1), (1, 3), (1, 5)):
            given = told(start, *[STEP] * 5, heard(keep_out(1, first)), heard(keep_out(2, second)))
            self.assertEqual(given[6:], [[0, 3] + answered(1, 1), [0, 3] + answered(2, 0)], (first, second))


class Had(unittest.TestCase):
    def test_the_next_one_and_the_next_is_sent(self):
        given = told(START, STEP, heard(had(1)), STATE, heard(had(2)), heard(had(3)), STATE)
        self.assertEqual(given[1], [1, 0, 0, 1, 3] + seen(1, 0, 1) + [0, 1, 2, 0, 3, 4])
        self.assertEqual(given[2:], [[0, 3] + seen(2, 1, 2), [0, 0, 99, 3, 1, 0, 1],
                                     [0, 3] + seen(3, 3, 4), [0], [0, 0, 99, 3, 3, 0, 1]])

    def test_others_change_nothing(self):
        for number in (1, 3, 4, 258, 65535):
            given = told(START, STEP, heard(had(1)), heard(had(number)), STATE, heard(had(2)))
            self.assertEqual(given[3:], [[0], [0, 0, 99, 3, 1, 0, 1], [0, 3] + seen(3, 3, 4)], number)

    def test_not_of_cells_it_has_not_seen(self):
        given = told(START, heard(had(1)), STATE, STEP)
        self.assertEqual(given[1:3], [[0], [0, 0, 99, 0, 0, 0, 1]])
        self.assertEqual(given[3][4:13], [3] + seen(1, 0, 1))
        given = told(START, STEP, heard(had(1)), heard(had(2)), heard(had(3)), heard(had(4)), STATE)
        self.assertEqual(given[5:], [[0], [0, 0, 99, 3, 3, 0, 1]])

    def test_all_256_cells(self):
        ground = [1 + cell % 200 for cell in range(256)]
        start = rv_start(16, 16, 0, 65535, ground)
        given = told(start, *[STEP] * 1200, *[heard(had(number)) for number in range(1, 258)], STATE)
        order = [thing[1] for answer in given[1:1201] for thing in done(answer) if thing[0] == 0]
        self.assertEqual(sorted(order), list(range(256)))
        sent = [[0, 3] + seen(number, order[number - 1], ground[order[number - 1]]) for number in range(2, 257)]
        self.assertEqual(given[1201:1458], sent + [[0], [0]])
        self.assertEqual(given[-1], [0, 0, 65535, 256, 256, 0, 256])
