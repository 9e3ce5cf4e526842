"""The interface: how calls and answers stand, and what is left as it was."""

import unittest

from feelbench.desk import answers
from tests.helper import (
    blend, doubled, filter_, flat, get, join, late, mix, new, passes, patterns, places_track, row, rows_made, run,
    sense, split, state, still, stretch, sums, thin, track_bits,
)

TRACK = places_track(8, [(1, 2, 3), (400, 500, 600), (-7, 8, -9)])
SESSION = [
    new(), TRACK, sense(0, 0, 3, 1, 100, 77, (1, 2, 3, 4, 5, 6)), sense(0, 2, 1, 0, 9, 0), row(9, [5, -6, 7]),
    filter_(0, [16384, 9]), filter_(1, [-9, 16384]), filter_(2, [1, 2, 3, 4, 5]), filter_(3, [16384, 100]),
    filter_(4, [500]), run(0, 4), run(1, 4), run(2, 4), run(3, 4), blend(4, 4, 3), still(0), still(4),
    get(5), get(6), get(7), get(8), get(9),
    thin(4, 2, 0), stretch(4, 16384), mix(4, 3, 16384, -9), join(10, 11), run(0, 13), patterns(13, 1, 3),
    passes(13, -2, 5), late(13, 11, 6), late(11, 13, 6), sums(13), state(), get(10), get(11), get(12), get(13), get(14),
]
REFUSED = [
    track_bits(1, 1, []), track_bits(0, 2, TRACK[4:18]), track_bits(1, 2, [2 ** 64 - 1] * 14), sense(0, 4), sense(9, 0),
    row(0, [1, 2]), get(0, -1, 1), get(99), filter_(5, [1]), filter_(3, []), run(99, 0), run(0, 99), run(4, 4),
    blend(0, 4, 4), blend(4, 4, 0), blend(4, 99, 0), still(-1), still(99),
    thin(4, 0, 0), thin(4, 2, 2), thin(99, 1, 0), stretch(4, 0), stretch(-1, 1), mix(4, 0, 1, 1), mix(4, 4, 32768, 1),
    mix(99, 4, 1, 1), join(4, 99), join(-1, 4), patterns(4, 0, 2), patterns(4, -1, 0), patterns(99, 0, 0),
    passes(4, 1, 0), passes(99, 0, 1), late(4, 4, 1025), late(4, 99, 1), sums(99),
]


class FormTest(unittest.TestCase):
    def test_each_answer_has_its_length_before_it(self):
        calls = [1, 4, 100, 3, 10, 20, 30, 5, 0, 1, 9, 9, 0, 6, 0, 1, 16384, 7, 0, 0, 5, 1, 0, 4, 1, 5, 0, 0, 0]
        told = [1, 0, 1, 0, 4, 3, 100, 20, 30, 1, -2, 1, 0, 1, 1, 5, 3, 100, 5, 10, 15, 1, 0, 1, -2]
        self.assertEqual(answers(calls), told)

    def test_a_track_and_a_sense_as_they_stand(self):
        one = 0x3FF0000000000000
        pose = [0, 0, 0, one, 0, 0, 0]
        far = [one, 0, 0, one, 0, 0, 0]
        calls = [1, 2, 30, 2, 14] + pose + far + [3, 0, 2, 1, 10, 0, 0, 6, 0, 0, 0, 0, 0, 0, 5, 0, 0, 9]
        self.assertEqual(answers(calls), [1, 0, 1, 0, 1, 0, 4, 2, 30, 0, 1024])

    def test_a_blend_as_it_stands(self):
        calls = [1, 6, 4, 1, 0, 4, 5, 2, 3, 4, 4, 6, 2, 0, 0, 8, 0, 0, 1, 5, 2, 0, 2, 9, 0]
        self.assertEqual(answers(calls), [1, 0, 1, 0, 1, 0, 1, 1, 1, 2, 4, 2, 5, 3, 7, 1, 0])

    def test_thin_stretch_mix_and_join_as_they_stand(self):
        calls = [1, 4, 100, 4, 10, 20, 30, 40, 10, 0, 2, 1, 11, 1, 32768, 12, 1, 2, 32767, 16384, 13, 3, 0]
        calls += [5, 1, 0, 9, 5, 2, 0, 9, 5, 3, 0, 9, 5, 4, 0, 9]
        told = [1, 0, 1, 0, 1, 1, 1, 2, 1, 3, 1, 4]
        told += [4, 2, 50, 20, 40, 4, 2, 100, 20, 30, 4, 2, 50, 30, 55, 8, 6, 50, 30, 55, 10, 20, 30, 40]
        self.assertEqual(answers(calls), told)

    def test_patterns_passes_late_sums_and_state_as_they_stand(self):
        calls = [1, 4, 100, 3, 1, 9, 5, 4, 7, 2, 8, 1, 14, 0, 1, 1, 15, 0, 6, 8, 1, 16, 0, 1, 1, 17, 0, 18]
        told = [1, 0, 1, 0, 1, 1, 3, 0, 7, 2, 3, 2, 1, 1, 3, 0, -1, 77, 5, 3, 1, 9, 15, 107, 4, 0, 0, 2, 0]
        self.assertEqual(answers(calls), told)

    def test_a_refusal_is_its_number_alone(self):
        calls = [1, 10, 0, 1, 0, 11, 0, 0, 12, 0, 0, 0, 0, 13, 0, 0, 14, 0, 0, 11]
        calls += [15, 0, 1, 0, 1, 16, 0, 0, -1, 17, 0, 18]
        told = [1, 0, 1, -2, 1, -8, 1, -2, 1, -2, 1, -8, 1, -8, 1, -8, 1, -2, 4, 0, 0, 0, 0]
        self.assertEqual(answers(calls), told)

    def test_refused_calls_take_all_their_numbers(self):
        told = split(answers(flat([new()] + REFUSED + [row(3, [1])])))
        self.assertEqual(len(told), len(REFUSED) + 2)
        self.assertEqual(told[-1], [0])
        for part in told[1:-1]:
            self.assertIn(part, ([-8], [-2]))

    def test_a_hundred_calls(self):
        self.assertEqual(answers([1] * 100), [1, 0] * 100)

    def test_a_hundred_calls_of_all_kinds_and_16000_numbers(self):
        calls = SESSION + REFUSED
        calls += [state()] * (99 - len(calls))
        samples = [k % 5000 - 2500 for k in range(16000 - 3 - len(flat(calls)))]
        calls = calls[:1] + [row(9, samples)] + [moved(call) for call in calls[1:]]
        self.assertEqual([len(calls), len(flat(calls))], [100, 16000])
        told = split(answers(flat(calls)))
        self.assertEqual(len(told), 100)
        self.assertEqual(told[-1], [0, 1, 16, 5])

    def test_long_rows_through_all_calls(self):
        calls = [new()] + doubled([k % 200 * 100 - 10000 for k in range(8000)], 3)
        calls += [thin(3, 5, 4), stretch(4, 20000), mix(3, 3, 16384, 8192), row(9, [1, 2, 3]), join(3, 7), join(8, 5)]
        calls += [filter_(2, [16384, 0, 0, 0, 0]), run(0, 8), patterns(8, 62000, 10), passes(8, -9000, 9000, 1)]
        calls += [late(3, 8, 200), sums(9), get(8, 63999, 9), state()]
        told = split(answers(flat(calls)))
        self.assertEqual(told[5:13], [[4], [5], [6], [7], [8], [-3], [0], [9]])
        self.assertEqual(len(told[13]), 1025)
        # Up once in every 200 samples, and down once but for the first 200.
        self.assertEqual(told[14], [639, 190, 1])
        self.assertEqual(told[15][:2], [0, 0])
        self.assertEqual(told[16], [64003, -10000, 9900, 64000 * -50 + 6, 320 * squares(200) + 14])
        self.assertEqual(told[17:], [[64003, 9, 9900, 1, 2, 3], [0, 0, 10, 1]])

    def test_whole_numbers_in_a_list(self):
        told = answers(flat(SESSION))
        self.assertIs(type(told), list)
        self.assertEqual({type(x) for x in told}, {int})


class KeepsNothingTest(unittest.TestCase):
    def test_what_is_handed_in_is_unchanged(self):
        calls = flat(SESSION + REFUSED)
        before = list(calls)
        answers(calls)
        self.assertEqual(calls, before)

    def test_not_changed_for_a_while_either(self):
        calls = Watched(flat(SESSION + REFUSED))
        self.assertEqual(answers(calls), answers(list(calls)))

    def test_twice_the_same(self):
        calls = flat(SESSION + REFUSED)
        first = answers(calls)
        answers(flat([new(), TRACK, row(5, [1]), filter_(0, [0, 9]), run(0, 0)]))
        self.assertEqual(answers(calls), first)

    def test_what_is_given_back_may_be_changed(self):
        calls = flat(SESSION)
        first = answers(calls)
        kept = list(first)
        first.clear()
        self.assertEqual(answers(calls), kept)

    def test_each_time_begins_with_nothing(self):
        answers(flat(SESSION))
        self.assertEqual(split(answers(flat([new(), get(0), still(0), sense(0, 0)]))), [[0], [-2], [-2], [-2]])


def squares(count):
    return sum((100 * k - 10000) ** 2 for k in range(count))


def moved(call):
    """The call with each row's number one higher, as one row more stands before them."""
    places = {7: (2,), 8: (2, 3), 12: (1, 2), 13: (1, 2), 16: (1, 2)}
    places.update({number: (1,) for number in (5, 10, 11, 14, 15, 17)})
    call = list(call)
    for at in places.get(call[0], ()):
        call[at] += 1 if call[at] >= 0 else 0
    return call


class Watched(list):
    """A list that may be read alone."""

    def refuse(self, *args, **kwargs):
        raise AssertionError("changed")

    append = extend = insert = pop = remove = clear = sort = reverse = refuse
    __setitem__ = __delitem__ = __iadd__ = __imul__ = refuse


class RefusalTest(unittest.TestCase):
    def test_a_refusal_leaves_the_bench_as_it_was(self):
        start = SESSION[:15]
        ends = [row(1, [8]), filter_(0, [1]), TRACK, run(0, 4), run(1, 4), run(2, 4), run(3, 4), blend(4, 4, 3)]
        ends += [get(a) for a in range(16)]
        ends += [thin(9, 1, 0), stretch(9, 9999), mix(4, 4, 9, 9), join(9, 4), patterns(9, 0, 1), passes(9, 0, 3)]
        ends += [late(9, 4, 5), sums(9), state()] + [get(a) for a in range(16, 20)]
        plain = split(answers(flat(start + ends)))
        for call in REFUSED:
            with self.subTest(call=call):
                told = split(answers(flat(start + [call] + ends)))
                self.assertEqual(len(told[15]), 1)
                self.assertLess(told[15][0], 0)
                self.assertEqual(told[:15] + told[16:], plain)

    def test_all_refusals_one_behind_another(self):
        plain = split(answers(flat(SESSION)))
        told = split(answers(flat(SESSION[:10] + REFUSED + SESSION[10:])))
        self.assertEqual(told[:10] + told[10 + len(REFUSED):], plain)

    def test_full_refusals_leave_the_bench_as_it_was(self):
        start = [new()] + rows_made(256) + [filter_(0, [0, 32767]), filter_(4, [0])]
        told = split(answers(flat(start + [row(1, [1]), run(0, 0), blend(1, 0, 0), sense(0, 0), get(255), get(256)])))
        self.assertEqual(told[-6:], [[-1], [-1], [-1], [-1], [0, 7], [-2]])
        told = split(answers(flat(
            start + [thin(0, 1, 0), stretch(0, 1), mix(0, 0, 1, 1), join(0, 0), get(255), get(256), state()]
        )))
        self.assertEqual(told[-7:], [[-1], [-1], [-1], [-1], [0, 7], [-2], [0, 1, 256, 2]])

    def test_an_unfit_join_leaves_the_bench_as_it_was(self):
        start = [new()] + doubled([1, 2, 3, 4] * 2048, 3)
        told = split(answers(flat(start + [join(3, 0), state(), get(3, 65534, 9), sums(0)])))
        self.assertEqual(told[-4:], [[-3], [0, 0, 4, 0], [65536, 9, 3, 4], [8192, 1, 4, 20480, 61440]])


if __name__ == "__main__":
    unittest.main()
