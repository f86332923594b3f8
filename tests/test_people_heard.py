"""Point 7: bs_heard."""

import unittest

from helper import (PEOPLE_MAP, PEOPLE_STATE, PEOPLE_TICK, answered, avoid, bs_start, had, keep_out, people_heard, seen,
                    told)

START = bs_start(3, 2)


def map_of(count, costs):
    return [count] + [costs.get(cell, 0) for cell in range(256)]


class NotAsTold(unittest.TestCase):
    def refused(self, m):
        before = [START, people_heard(seen(1, 2, 9)), avoid(5), PEOPLE_TICK, PEOPLE_TICK]
        behind = [PEOPLE_STATE, PEOPLE_MAP, PEOPLE_TICK, PEOPLE_TICK, PEOPLE_TICK, people_heard(seen(2, 3, 8)),
                  people_heard(answered(1, 1)), PEOPLE_STATE, PEOPLE_MAP]
        given = told(*before, people_heard(m), *behind)
        self.assertEqual(given[5], [-71], m)
        self.assertEqual(given[:5] + given[6:], told(*before, *behind), m)

    def test_every_length_but_eight(self):
        for m in (seen(2, 3, 8), answered(1, 1), answered(1, 0)):
            for length in range(13):
                if length != 8:
                    self.refused((m + [0] * 4)[:length])

    def test_each_byte_that_must_be_0(self):
        for place in (1, 6, 7):
            for value in (1, 2, 255):
                self.refused(seen(2, 3, 8)[:place] + [value] + seen(2, 3, 8)[place + 1:])
        for place in (1, 5, 6, 7):
            for value in (1, 2, 255):
                self.refused(answered(1, 1)[:place] + [value] + answered(1, 1)[place + 1:])

    def test_other_kinds(self):
        for kind in (0, 1, 2, 5, 128, 255):
            self.refused([kind, 0, 1, 0, 1, 0, 0, 0])
            self.refused([kind, 0, 2, 0, 3, 8, 0, 0])
        self.refused(keep_out(1, 5))
        self.refused(had(1))
        self.refused(had(2))

    def test_number_nought(self):
        self.refused(seen(0, 3, 8))
        self.refused(answered(0, 1))
        self.refused(answered(0, 0))

    def test_number_nought_where_there_was_no_keep_out(self):
        given = told(START, people_heard(answered(0, 1)), people_heard(seen(0, 3, 8)), PEOPLE_STATE, PEOPLE_MAP)
        self.assertEqual(given[1:], [[-71], [-71], [0, 0, 0, 0, 0], map_of(0, {})])

    def test_no_such_cell(self):
        for number in (1, 2, 3):
            self.refused(seen(number, 6, 8))
            self.refused(seen(number, 7, 8))
            self.refused(seen(number, 255, 8))

    def test_the_last_cell_of_other_maps(self):
        for width, height in ((1, 1), (16, 1), (1, 16), (5, 3), (16, 15)):
            last = width * height - 1
            given = told(bs_start(width, height), people_heard(seen(1, last + 1, 8)), people_heard(seen(1, last, 8)),
                         PEOPLE_MAP)
            self.assertEqual(given[1:], [[-71], [0, 3] + had(1), map_of(1, {last: 8})])
        given = told(bs_start(16, 16), people_heard(seen(1, 255, 8)), PEOPLE_MAP)
        self.assertEqual(given[1:], [[0, 3] + had(1), map_of(1, {255: 8})])

    def test_costs_that_are_none(self):
        for cost in (0, 201, 202, 254):
            for number in (1, 2, 3):
                self.refused(seen(number, 3, cost))

    def test_costs_that_are(self):
        for cost in (1, 2, 199, 200, 255):
            given = told(START, people_heard(seen(1, 3, cost)), PEOPLE_MAP)
            self.assertEqual(given[1:], [[0, 3] + had(1), map_of(1, {3: cost})])

    def test_an_answer_that_is_neither_yes_nor_no(self):
        for said in (2, 3, 4, 128, 254, 255):
            for number in (1, 2):
                self.refused(answered(number, said))


class Seen(unittest.TestCase):
    def test_the_next_number(self):
        given = told(START, people_heard(seen(1, 4, 7)), PEOPLE_MAP, PEOPLE_STATE, people_heard(seen(2, 0, 255)),
                     PEOPLE_MAP, PEOPLE_STATE)
        self.assertEqual(given[1:], [[0, 3] + had(1), map_of(1, {4: 7}), [0, 1, 0, 0, 0],
                                     [0, 3] + had(2), map_of(2, {4: 7, 0: 255}), [0, 2, 0, 0, 0]])

    def test_the_last_ones_number_and_an_old_one(self):
        # Had is sent again, of that number; what it says of a cell doesn't count.
        before = [START] + [people_heard(seen(number, number, 10 * number)) for number in (1, 2, 3)]
        whole = map_of(3, {1: 10, 2: 20, 3: 30})
        for number in (1, 2, 3):
            for m in (seen(number, number, 10 * number), seen(number, number, 99), seen(number, 5, 99)):
                given = told(*before, people_heard(m), PEOPLE_MAP, PEOPLE_STATE)
                self.assertEqual(given[4:], [[0, 3] + had(number), whole, [0, 3, 0, 0, 0]], m)

    def test_one_too_far(self):
        for told_before in (0, 1, 2):
            before = [START] + [people_heard(seen(number, number, 7)) for number in range(1, told_before + 1)]
            whole = map_of(told_before, {number: 7 for number in range(1, told_before + 1)})
            for number in (told_before + 2, told_before + 3, 256 + told_before, 257 + told_before, 65535):
                given = told(*before, people_heard(seen(number, 5, 9)), PEOPLE_MAP, PEOPLE_STATE)
                self.assertEqual(given[len(before):], [[0], whole, [0, told_before, 0, 0, 0]], number)

    def test_one_too_far_comes_again_in_its_turn(self):
        given = told(START, people_heard(seen(2, 5, 9)), people_heard(seen(1, 4, 8)), people_heard(seen(2, 5, 9)),
                     PEOPLE_MAP)
        self.assertEqual(given[1:], [[0], [0, 3] + had(1), [0, 3] + had(2), map_of(2, {4: 8, 5: 9})])

    def test_a_cell_told_twice(self):
        given = told(START, people_heard(seen(1, 4, 7)), people_heard(seen(2, 4, 200)), PEOPLE_MAP,
                     people_heard(seen(3, 4, 200)), PEOPLE_MAP)
        self.assertEqual(given[1:], [[0, 3] + had(1), [0, 3] + had(2), map_of(2, {4: 200}),
                                     [0, 3] + had(3), map_of(3, {4: 200})])

    def test_both_bytes_of_the_number(self):
        calls = [people_heard(seen(number, number % 6, 1 + number % 200)) for number in range(1, 601)]
        given = told(START, *calls, people_heard(seen(300, 0, 9)), people_heard(seen(602, 0, 9)),
                     people_heard(seen(89, 0, 9)), PEOPLE_STATE)
        self.assertEqual(given[1:601], [[0, 3] + had(number) for number in range(1, 601)])
        self.assertEqual(given[256], [0, 3, 2, 0, 0, 1, 0, 0, 0, 0])
        self.assertEqual(given[601:], [[0, 3] + had(300), [0], [0, 3] + had(89), [0, 600, 0, 0, 0]])

    def test_all_256_cells(self):
        costs = {cell: 1 + cell * 7 % 200 for cell in range(256)}
        calls = [people_heard(seen(cell + 1, cell, costs[cell])) for cell in range(256)]
        given = told(bs_start(16, 16), *calls, PEOPLE_MAP)
        self.assertEqual(given[-1], map_of(256, costs))

    def test_the_keep_out_stays_as_it_was(self):
        for behind, last in (([], [1, 4, 0]), ([people_heard(answered(1, 0))], [1, 4, 1]),
                             ([people_heard(answered(1, 1))], [1, 4, 2])):
            given = told(START, avoid(4), *behind, people_heard(seen(1, 4, 9)), PEOPLE_STATE)
            self.assertEqual(given[-1], [0, 1] + last)


class Answers(unittest.TestCase):
    def test_the_last_number(self):
        for yes in (0, 1):
            given = told(START, avoid(4), people_heard(answered(1, yes)), PEOPLE_STATE)
            self.assertEqual(given[2:], [[0], [0, 0, 1, 4, 1 + yes]])

    def test_another_number(self):
        before = [START, avoid(4), people_heard(answered(1, 0)), avoid(5)]
        for number in (1, 3, 258, 65535):
            for yes in (0, 1):
                given = told(*before, people_heard(answered(number, yes)), PEOPLE_STATE, avoid(0))
                self.assertEqual(given[4:], [[0], [0, 0, 2, 5, 0], [-16]], number)

    def test_a_second_time(self):
        for first in (0, 1):
            for second in (0, 1):
                given = told(START, avoid(4), people_heard(answered(1, first)), people_heard(answered(1, second)),
                             PEOPLE_STATE)
                self.assertEqual(given[3:], [[0], [0, 0, 1, 4, 1 + first]])

    def test_a_late_one_behind_the_next_keep_out(self):
        given = told(START, avoid(4), people_heard(answered(1, 1)), avoid(5), people_heard(answered(1, 1)),
                     PEOPLE_STATE, people_heard(answered(2, 0)), people_heard(answered(1, 1)), PEOPLE_STATE)
        self.assertEqual(given[4:], [[0], [0, 0, 2, 5, 0], [0], [0], [0, 0, 2, 5, 1]])

    def test_where_there_was_no_keep_out(self):
        for number in (1, 2, 65535):
            for yes in (0, 1):
                given = told(START, people_heard(answered(number, yes)), PEOPLE_STATE, avoid(3), PEOPLE_STATE)
                self.assertEqual(given[1:], [[0], [0, 0, 0, 0, 0], [1, 3] + keep_out(1, 3), [0, 0, 1, 3, 0]], number)

    def test_the_map_stays_as_it_was(self):
        given = told(START, people_heard(seen(1, 2, 9)), avoid(4), people_heard(answered(1, 1)), PEOPLE_MAP)
        self.assertEqual(given[-1], map_of(1, {2: 9}))
