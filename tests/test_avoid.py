"""Of point 6 bs_avoid."""

import unittest

from helper import (MOST, PEOPLE_MAP, PEOPLE_STATE, PEOPLE_TICK, Live, answered, avoid, bs_start, keep_out,
                    people_heard, seen, told)

START = bs_start(3, 2)


def answers_to(number, yes=1):
    return people_heard(answered(number, yes))


class Sent(unittest.TestCase):
    def test_keep_out_is_sent_and_its_number_answered(self):
        given = told(START, avoid(4), PEOPLE_STATE)
        self.assertEqual(given[1:], [[1, 3] + keep_out(1, 4), [0, 0, 1, 4, 0]])

    def test_the_next_one(self):
        given = told(START, avoid(4), answers_to(1), avoid(2), answers_to(2, 0), avoid(2), PEOPLE_STATE)
        self.assertEqual(given[1::2], [[1, 3] + keep_out(1, 4), [2, 3] + keep_out(2, 2), [3, 3] + keep_out(3, 2)])
        self.assertEqual(given[6], [0, 0, 3, 2, 0])

    def test_the_first_and_the_last_cell(self):
        for width, height in ((1, 1), (16, 1), (1, 16), (3, 5), (16, 16)):
            last = width * height - 1
            given = told(bs_start(width, height), avoid(last), answers_to(1), avoid(0))
            self.assertEqual(given[1::2], [[1, 3] + keep_out(1, last), [2, 3] + keep_out(2, 0)])

    def test_a_cell_whatever_was_told_of_it(self):
        given = told(START, people_heard(seen(1, 4, 255)), avoid(4), answers_to(1), avoid(4))
        self.assertEqual(given[2::2], [[1, 3] + keep_out(1, 4), [2, 3] + keep_out(2, 4)])

    def test_both_bytes_of_the_number(self):
        calls = [call for number in range(1, 601) for call in (avoid(number % 6), answers_to(number, number % 2))]
        given = told(START, *calls, PEOPLE_STATE)
        self.assertEqual(given[1:-1:2], [[number, 3] + keep_out(number, number % 6) for number in range(1, 601)])
        self.assertEqual(given[256 * 2 - 1], [256, 3, 1, 0, 0, 1, 256 % 6, 0, 0, 0])
        self.assertEqual(given[-1], [0, 0, 600, 0, 1])


class Refused(unittest.TestCase):
    def refused(self, before, call, wanted):
        behind = [PEOPLE_STATE, PEOPLE_MAP] + [PEOPLE_TICK] * 5 + [answers_to(1), answers_to(2), PEOPLE_STATE, avoid(1)]
        given = told(*before, call, *behind)
        self.assertEqual(given[len(before)], [wanted], call)
        self.assertEqual(given[:len(before)] + given[len(before) + 1:], told(*before, *behind), call)

    def test_no_such_cell(self):
        for width, height in ((1, 1), (16, 1), (1, 16), (3, 2), (3, 5), (16, 16)):
            for cell in (width * height, width * height + 1, 65536, MOST):
                self.refused([bs_start(width, height), people_heard(seen(1, 0, 7))], avoid(cell), -22)

    def test_no_such_cell_behind_a_keep_out(self):
        self.refused([START, avoid(4), PEOPLE_TICK, PEOPLE_TICK, answers_to(1)], avoid(6), -22)

    def test_the_last_one_is_not_answered(self):
        for cell in (0, 4, 5):
            self.refused([START, avoid(4), PEOPLE_TICK, PEOPLE_TICK], avoid(cell), -16)
            self.refused([START, avoid(4), answers_to(1), avoid(2)], avoid(cell), -16)

    def test_no_such_cell_goes_before_not_answered(self):
        for cell in (6, 255, MOST):
            self.refused([START, avoid(4)], avoid(cell), -22)

    def test_another_ones_answer_is_none(self):
        self.refused([START, avoid(4), answers_to(2)], avoid(0), -16)
        self.refused([START, avoid(4), answers_to(1), avoid(4), answers_to(1)], avoid(0), -16)

    def test_a_tick_or_seen_is_no_answer(self):
        self.refused([START, avoid(4)] + [PEOPLE_TICK] * 5 + [people_heard(seen(1, 4, 9))], avoid(0), -16)

    def test_a_wrong_message_is_no_answer(self):
        self.refused([START, avoid(4), people_heard([4, 0, 1, 0, 2, 0, 0, 0])], avoid(0), -16)


class TooMany(unittest.TestCase):
    """65,535 keep outs are more than one list of calls holds, so what the list is handed to, roverhome.ground.Line,
    is asked call by call."""

    def test_65535_and_no_more(self):
        live = Live(START)
        for number in range(1, 65536):
            if live.ask(avoid(number % 6)) != [number, 3] + keep_out(number, number % 6):
                self.fail(number)
            self.assertEqual(live.ask(PEOPLE_STATE)[2], number)
            if number < 65535:
                live.ask(answers_to(number))
        last = 65535 % 6
        self.assertEqual(live.ask(avoid(6)), [-22])
        self.assertEqual(live.ask(avoid(0)), [-16])
        given = [live.ask(PEOPLE_TICK) for count in range(5)]
        self.assertEqual(given, [[0]] * 4 + [[0, 3] + keep_out(65535, last)])
        self.assertEqual(live.ask(PEOPLE_STATE), [0, 0, 65535, last, 0])
        self.assertEqual(live.ask(answers_to(65535, 0)), [0])
        for _ in range(2):
            self.assertEqual(live.ask(avoid(0)), [-28])
            self.assertEqual(live.ask(avoid(5)), [-28])
            self.assertEqual(live.ask(avoid(6)), [-22])
            self.assertEqual(live.ask(PEOPLE_STATE), [0, 0, 65535, last, 1])
        self.assertEqual([live.ask(PEOPLE_TICK) for count in range(5)], [[0]] * 5)
        live.ask(START)
        self.assertEqual(live.ask(avoid(3)), [1, 3] + keep_out(1, 3))
