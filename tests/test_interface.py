"""The interface: roverhome.ground.answers."""

import unittest

from helper import (PEOPLE_MAP, PEOPLE_STATE, PEOPLE_TICK, STATE, STEP, TICK, answered, avoid, bs_start, had, heard,
                    joined, keep_out, people_heard, rv_start, seen)
from roverhome.ground import answers

GROUND = [3, 1, 4, 1, 5, 9]
CALLS = [rv_start(3, 2, 1, 60, GROUND), STEP, bs_start(3, 2), STEP, heard(had(1)), heard([1, 2, 3]), TICK, STATE,
         avoid(5), heard(keep_out(1, 5)), people_heard(answered(1, 1)), people_heard(seen(1, 0, 3)), PEOPLE_TICK,
         PEOPLE_MAP, avoid(6), people_heard([3, 0, 2]), PEOPLE_STATE, bs_start(0, 2), STEP, STEP, STATE, PEOPLE_STATE]


class Guarded(list):
    """A list that can't be changed."""

    def refuse(self, *given, **named):
        raise AssertionError("what was handed in was changed")

    append = extend = insert = remove = pop = clear = sort = reverse = refuse
    __setitem__ = __delitem__ = __iadd__ = __imul__ = refuse


class Interface(unittest.TestCase):
    def test_the_count_before_each_answer(self):
        calls = joined([rv_start(2, 1, 0, 20, [3, 5]), STEP, STEP, STATE, heard([]), TICK, bs_start(1, 1),
                        heard(keep_out(1, 0)), heard(had(2)), STEP, STEP, STEP])
        wanted = [1, 0]
        wanted += [16, 1, 0, 0, 3, 3] + seen(1, 0, 3) + [0, 1, 5]
        wanted += [3, 2, 1, 1]
        wanted += [7, 0, 1, 15, 2, 0, 0, 2]
        wanted += [1, -71]
        wanted += [1, 0]
        wanted += [1, 0]
        wanted += [10, 0, 3] + answered(1, 0)
        wanted += [1, 0]
        wanted += [3, 3, 1, 0]
        wanted += [2, 4, 2]
        wanted += [1, 0]
        self.assertEqual(answers(calls), wanted)

    def test_the_count_before_each_answer_on_both_ends(self):
        calls = joined([bs_start(2, 1), PEOPLE_STATE, rv_start(2, 1, 0, 20, [3, 5]), avoid(1), STEP, avoid(0), avoid(2),
                        people_heard(seen(1, 0, 3)), STATE, heard(had(1)), PEOPLE_MAP, heard(keep_out(1, 1)),
                        people_heard(answered(1, 1)), PEOPLE_STATE, people_heard([4] * 12), PEOPLE_TICK, TICK, STEP])
        wanted = [1, 0]
        wanted += [5, 0, 0, 0, 0, 0]
        wanted += [1, 0]
        wanted += [10, 1, 3] + keep_out(1, 1)
        wanted += [16, 1, 0, 0, 3, 3] + seen(1, 0, 3) + [0, 1, 5]
        wanted += [1, -16]
        wanted += [1, -22]
        wanted += [10, 0, 3] + had(1)
        wanted += [7, 0, 0, 20, 2, 0, 0, 1]
        wanted += [10, 0, 3] + seen(2, 1, 5)
        wanted += [257, 1, 3] + [0] * 255
        wanted += [10, 0, 3] + answered(1, 1)
        wanted += [1, 0]
        wanted += [5, 0, 1, 1, 1, 2]
        wanted += [1, -71]
        wanted += [1, 0]
        wanted += [1, 0]
        wanted += [1, 0]
        self.assertEqual(answers(calls), wanted)

    def test_one_call(self):
        self.assertEqual(answers(rv_start(16, 16, 255, 1, [1] * 256)), [1, 0])
        self.assertEqual(answers(rv_start(16, 16, 256, 1, [1] * 256)), [1, -22])
        self.assertEqual(answers(bs_start(1, 1)), [1, 0])

    def test_rows_are_read_to_their_end(self):
        # Numbers in a row that look like calls aren't.
        for length in range(13):
            calls = joined([rv_start(2, 1, 0, 20, [3, 5]), heard([5] * length), STATE])
            self.assertEqual(answers(calls), [1, 0, 1, -71, 7, 0, 0, 20, 0, 0, 0, 1])
            calls = joined([bs_start(2, 1), people_heard([5] * length), PEOPLE_STATE])
            self.assertEqual(answers(calls), [1, 0, 1, -71, 5, 0, 0, 0, 0, 0])

    def test_what_is_handed_in_stays(self):
        calls = joined(CALLS)
        before = list(calls)
        answers(calls)
        self.assertEqual(calls, before)
        self.assertEqual(answers(Guarded(before)), answers(before))

    def test_nothing_is_kept(self):
        calls = joined(CALLS)
        first = answers(calls)
        wanted = list(first)
        first.clear()
        answers(joined([rv_start(5, 5, 3, 9, [2] * 25), STEP, TICK, TICK, heard(keep_out(1, 1)), bs_start(5, 5),
                        avoid(20), people_heard(seen(1, 7, 200)), PEOPLE_TICK, PEOPLE_TICK, PEOPLE_MAP]))
        self.assertEqual(answers(calls), wanted)
        self.assertEqual(answers(list(calls)), wanted)

    def test_all_are_plain_whole_numbers(self):
        given = answers(joined(CALLS + [heard(keep_out(2, 5)), heard(keep_out(3, 1)), avoid(2)] + [STEP] * 30
                               + [PEOPLE_TICK] * 5 + [people_heard(answered(2, 0)), STATE, PEOPLE_STATE, PEOPLE_MAP]))
        self.assertIs(type(given), list)
        self.assertEqual({type(number) for number in given}, {int})

    def test_2000_calls(self):
        given = answers(joined([rv_start(16, 16, 119, 65535, [200] * 256)] + [STEP] * 1998 + [STATE]))
        self.assertEqual(given[-8:], [7, 0, 119, 65535, 256, 0, 0, 256])

    def test_2000_calls_on_the_people(self):
        calls = [call for number in range(1, 1000) for call in (avoid(7), people_heard(answered(number, 0)))]
        given = answers(joined([bs_start(16, 16)] + calls + [PEOPLE_STATE]))
        self.assertEqual(given[-6:], [5, 0, 0, 999, 7, 1])
        # As many maps as a list of calls holds.
        given = answers(joined([bs_start(16, 16), people_heard(seen(1, 255, 200))] + [PEOPLE_MAP] * 1998))
        self.assertEqual(given[-258 * 1998:], ([257, 1] + [0] * 255 + [200]) * 1998)
