"""The interface: how calls and answers stand, and what is left as it was."""

import unittest

from feelbench.desk import answers
from tests.helper import (
    blend, filter_, flat, get, new, places_track, row, rows_made, run, sense, split, still, track_bits,
)

TRACK = places_track(8, [(1, 2, 3), (400, 500, 600), (-7, 8, -9)])
SESSION = [
    new(), TRACK, sense(0, 0, 3, 1, 100, 77, (1, 2, 3, 4, 5, 6)), sense(0, 2, 1, 0, 9, 0), row(9, [5, -6, 7]),
    filter_(0, [16384, 9]), filter_(1, [-9, 16384]), filter_(2, [1, 2, 3, 4, 5]), filter_(3, [16384, 100]),
    filter_(4, [500]), run(0, 4), run(1, 4), run(2, 4), run(3, 4), blend(4, 4, 3), still(0), still(4),
    get(5), get(6), get(7), get(8), get(9),
]
REFUSED = [
    track_bits(1, 1, []), track_bits(0, 2, TRACK[4:18]), track_bits(1, 2, [2 ** 64 - 1] * 14), sense(0, 4), sense(9, 0),
    row(0, [1, 2]), get(0, -1, 1), get(99), filter_(5, [1]), filter_(3, []), run(99, 0), run(0, 99), run(4, 4),
    blend(0, 4, 4), blend(4, 4, 0), blend(4, 99, 0), still(-1), still(99),
]


class FormTest(unittest.TestCase):
    def test_each_answer_has_its_length_before_it(self):
        calls = [1, 4, 100, 3, 10, 20, 30, 5, 0, 1, 9, 9, 0, 6, 0, 1, 16384, 7, 0, 0, 5, 1, 0, 4, 1, 5, 0, 0, 0]
        told = [1, 0, 1, 0, 4, 3, 100, 20, 30, 1, -2, 1, 0, 1, 1, 5, 3, 100, 5, 10, 15, 1, 0, 1, -2]
        self.assertEqual(answers(calls), told)

    def test_a_track_and_a_sense_as_they_stand(self):
        one = 0x3FF0000000000000
        pose = [0, 0, 0, one, 0, 0, 0]
        far = [one, 0, 0, one, 0, 0, 0]
        calls = [1, 2, 30, 2, 14] + pose + far + [3, 0, 2, 1, 10, 0, 0, 6, 0, 0, 0, 0, 0, 0, 5, 0, 0, 9]
        self.assertEqual(answers(calls), [1, 0, 1, 0, 1, 0, 4, 2, 30, 0, 1024])

    def test_a_blend_as_it_stands(self):
        calls = [1, 6, 4, 1, 0, 4, 5, 2, 3, 4, 4, 6, 2, 0, 0, 8, 0, 0, 1, 5, 2, 0, 2, 9, 0]
        self.assertEqual(answers(calls), [1, 0, 1, 0, 1, 0, 1, 1, 1, 2, 4, 2, 5, 3, 7, 1, 0])

    def test_refused_calls_take_all_their_numbers(self):
        told = split(answers(flat([new()] + REFUSED + [row(3, [1])])))
        self.assertEqual(len(told), len(REFUSED) + 2)
        self.assertEqual(told[-1], [0])
        for part in told[1:-1]:
            self.assertIn(part, ([-8], [-2]))

    def test_a_hundred_calls(self):
        self.assertEqual(answers([1] * 100), [1, 0] * 100)

    def test_whole_numbers_in_a_list(self):
        told = answers(flat(SESSION))
        self.assertIs(type(told), list)
        self.assertEqual({type(x) for x in told}, {int})


class KeepsNothingTest(unittest.TestCase):
    def test_what_is_handed_in_is_unchanged(self):
        calls = flat(SESSION + REFUSED)
        before = list(calls)
        answers(calls)
        self.assertEqual(calls, before)

    def test_not_changed_for_a_while_either(self):
        calls = Watched(flat(SESSION + REFUSED))
        self.assertEqual(answers(calls), answers(list(calls)))

    def test_twice_the_same(self):
        calls = flat(SESSION + REFUSED)
        first = answers(calls)
        answers(flat([new(), TRACK, row(5, [1]), filter_(0, [0, 9]), run(0, 0)]))
        self.assertEqual(answers(calls), first)

    def test_what_is_given_back_may_be_changed(self):
        calls = flat(SESSION)
        first = answers(calls)
        kept = list(first)
        first.clear()
        self.assertEqual(answers(calls), kept)

    def test_each_time_begins_with_nothing(self):
        answers(flat(SESSION))
        self.assertEqual(split(answers(flat([new(), get(0), still(0), sense(0, 0)]))), [[0], [-2], [-2], [-2]])


class Watched(list):
    """A list that may be read alone."""

    def refuse(self, *args, **kwargs):
        raise AssertionError("changed")

    append = extend = insert = pop = remove = clear = sort = reverse = refuse
    __setitem__ = __delitem__ = __iadd__ = __imul__ = refuse


class RefusalTest(unittest.TestCase):
    def test_a_refusal_leaves_the_bench_as_it_was(self):
        start = SESSION[:15]
        ends = [row(1, [8]), filter_(0, [1]), TRACK, run(0, 4), run(1, 4), run(2, 4), run(3, 4), blend(4, 4, 3)]
        ends += [get(a) for a in range(16)]
        plain = split(answers(flat(start + ends)))
        for call in REFUSED:
            with self.subTest(call=call):
                told = split(answers(flat(start + [call] + ends)))
                self.assertEqual(len(told[15]), 1)
                self.assertLess(told[15][0], 0)
                self.assertEqual(told[:15] + told[16:], plain)

    def test_all_refusals_one_behind_another(self):
        plain = split(answers(flat(SESSION)))
        told = split(answers(flat(SESSION[:10] + REFUSED + SESSION[10:])))
        self.assertEqual(told[:10] + told[10 + len(REFUSED):], plain)

    def test_full_refusals_leave_the_bench_as_it_was(self):
        start = [new()] + rows_made(256) + [filter_(0, [0, 32767]), filter_(4, [0])]
        told = split(answers(flat(start + [row(1, [1]), run(0, 0), blend(1, 0, 0), sense(0, 0), get(255), get(256)])))
        self.assertEqual(told[-6:], [[-1], [-1], [-1], [-1], [0, 7], [-2]])


if __name__ == "__main__":
    unittest.main()
