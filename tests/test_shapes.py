"""Points 10 to 13: thin, stretch, mix and join."""

import unittest

from tests.helper import ask, doubled, get, join, last, mix, row, rows_made, samples_of, state, stretch, thin

LOW = -32768
HIGH = 32767
ENDS = (-2147483648, 2147483647)


def thinned(samples, m, first, rate=100):
    return last(row(rate, samples), thin(0, m, first), get(1))


def stretched(samples, step, rate=100):
    return last(row(rate, samples), stretch(0, step), get(1))


def mixed(xs, ys, c, d):
    return samples_of(row(10, xs), row(11, ys), mix(0, 1, c, d), get(2))


class ThinTest(unittest.TestCase):
    def test_every_third(self):
        samples = list(range(10, 20))
        self.assertEqual(thinned(samples, 3, 0), [4, 33, 10, 13, 16, 19])
        self.assertEqual(thinned(samples, 3, 1), [3, 33, 11, 14, 17])
        self.assertEqual(thinned(samples, 3, 2), [3, 33, 12, 15, 18])

    def test_every_one(self):
        self.assertEqual(thinned([LOW, 5, HIGH], 1, 0), [3, 100, LOW, 5, HIGH])

    def test_the_first_at_and_beyond_the_end(self):
        for first, answer in ((0, [1, 10, 7]), (2, [1, 10, 9]), (3, [0, 10]), (4, [0, 10]), (9, [0, 10])):
            self.assertEqual(thinned([7, 8, 9], 10, first), answer, first)

    def test_rows_of_none_and_of_one(self):
        self.assertEqual(thinned([], 1, 0), [0, 100])
        self.assertEqual(thinned([], 65536, 65535), [0, 1])
        self.assertEqual(thinned([6], 1, 0), [1, 100, 6])
        self.assertEqual(thinned([6], 2, 0), [1, 50, 6])
        self.assertEqual(thinned([6], 2, 1), [0, 50])

    def test_a_row_of_65536(self):
        calls = [row(9, [k - 32768 for k in range(65536)])]
        self.assertEqual(last(*calls, thin(0, 65536, 0), get(1)), [1, 1, LOW])
        self.assertEqual(last(*calls, thin(0, 65536, 65535), get(1)), [1, 1, HIGH])
        self.assertEqual(last(*calls, thin(0, 65535, 0), get(1)), [2, 1, LOW, HIGH])
        self.assertEqual(last(*calls, thin(0, 32768, 1), get(1)), [2, 1, LOW + 1, 1])
        self.assertEqual(last(*calls, thin(0, 1, 0), get(1, 65534, 9)), [65536, 9, HIGH - 1, HIGH])

    def test_rate_is_cut_and_1_at_least(self):
        for rate, m, made in (
            (100, 3, 33), (99, 3, 33), (98, 3, 32), (3, 3, 1), (5, 3, 1), (2, 3, 1), (1, 65536, 1), (65536, 65536, 1),
            (65535, 65536, 1), (65536, 1, 65536), (65535, 2, 32767), (65536, 32768, 2), (7, 8, 1),
        ):
            self.assertEqual(thinned([], m, 0, rate), [0, made], (rate, m))

    def test_out_of_range(self):
        for m in (0, -1, 65537) + ENDS:
            self.assertEqual(last(row(9, [1, 2]), thin(0, m, 0)), [-8], m)
        for m, first in ((1, 1), (2, 2), (2, 3), (65536, 65536), (1, -1), (65536, -1), (5, ENDS[0]), (5, ENDS[1])):
            self.assertEqual(last(row(9, [1, 2]), thin(0, m, first)), [-8], (m, first))
        for m, first in ((1, 0), (2, 1), (65536, 0), (65536, 65535)):
            self.assertEqual(last(row(9, [1, 2]), thin(0, m, first)), [1], (m, first))

    def test_no_such_row(self):
        for a in (-1, 1) + ENDS:
            self.assertEqual(last(row(9, [1]), thin(a, 1, 0)), [-2], a)

    def test_which_refusal_comes_first(self):
        self.assertEqual(ask(thin(0, 0, 0), thin(-1, 3, 3), thin(5, 3, -1), thin(0, 1, 0)), [[-8], [-8], [-8], [-2]])
        told = ask(*rows_made(256), thin(0, 0, 0), thin(256, 1, 1), thin(256, 1, 0), thin(-1, 1, 0), thin(255, 1, 0))
        self.assertEqual(told[-5:], [[-8], [-8], [-2], [-2], [-1]])


class StretchTest(unittest.TestCase):
    def test_twice_as_many(self):
        self.assertEqual(stretched([0, 10, 20, -20], 32768), [6, 200, 0, 5, 10, 15, 20, 0])

    def test_each_sample_but_the_last(self):
        self.assertEqual(stretched([4, 5, LOW, HIGH], 65536), [3, 100, 4, 5, LOW])

    def test_steps_that_fit_no_sample(self):
        # At 0, 1.5, 3: there is none behind the fourth.
        self.assertEqual(stretched([0, 10, 20, 30], 98304), [2, 66, 0, 15])
        self.assertEqual(stretched([0, 10, 20, 30, 0], 98304), [3, 66, 0, 15, 30])
        # At 0, 0.75, 1.5, 2.25.
        self.assertEqual(stretched([0, 100, 200, 100], 49152), [4, 133, 0, 75, 150, 175])

    def test_a_half_goes_up(self):
        for x, y, between in (
            (0, 1, 1), (0, -1, 0), (5, 4, 5), (4, 5, 5), (0, 3, 2), (0, -3, -1), (10, 7, 9), (-7, -10, -8),
            (LOW, HIGH, 0), (HIGH, LOW, 0), (HIGH, HIGH, HIGH), (LOW, LOW, LOW),
        ):
            self.assertEqual(stretched([x, y], 32768)[2:], [x, between], (x, y))

    def test_just_beside_a_half(self):
        # 32767 and 32769 of 65536 steps on the way.
        self.assertEqual(stretched([0, 1], 32767)[2:], [0, 0, 1])
        self.assertEqual(stretched([0, -1], 32767)[2:], [0, 0, -1])
        self.assertEqual(stretched([0, 1], 32769)[2:], [0, 1])
        self.assertEqual(stretched([0, -1], 32769)[2:], [0, -1])

    def test_the_difference_is_rounded_and_not_the_sum(self):
        # 65535 of 65536 steps on the way down from end to end, and up again.
        self.assertEqual(stretched([HIGH, LOW], 65535)[2:], [HIGH, LOW + 1])
        self.assertEqual(stretched([LOW, HIGH], 65535)[2:], [LOW, HIGH - 1])

    def test_a_step_of_1(self):
        told = ask(row(3, [0, 1, 900]), stretch(0, 1), get(1, 0, 2), get(1, 32766, 4), get(1, 65534, 4))
        self.assertEqual(told[2:], [[65536, 65536, 0, 0], [65536, 65536, 0, 0, 1, 1], [65536, 65536, 1, 1]])
        told = ask(row(3, [0, -1, 900]), stretch(0, 1), get(1, 32767, 4), get(1, 65534, 4))
        self.assertEqual(told[2:], [[65536, 65536, 0, 0, -1, -1], [65536, 65536, -1, -1]])
        told = ask(row(3, [LOW, HIGH]), stretch(0, 1), get(1, 0, 4), get(1, 65532, 4))
        self.assertEqual(told[2][2:], [-32768, -32767, -32766, -32765])
        self.assertEqual(told[3][2:], [32763, 32764, 32765, 32766])

    def test_a_step_of_16777216(self):
        for size, made in ((2, [0]), (256, [0]), (257, [0]), (258, [0, 256]), (513, [0, 256]), (514, [0, 256, 512])):
            self.assertEqual(stretched(list(range(size)), 16777216)[2:], made, size)

    def test_just_65536_samples(self):
        # 65535 ways between samples, 65535 steps at once: the last is the 65536th.
        start = doubled(list(range(8192)), 3)
        for step, told in (
            (65534, [65536, 9, 8188, 8189]), (65535, [65536, 9, 8189, 8190]), (65536, [65535, 9, 8190]),
            (65537, [65535, 8, 8191]), (65538, [65534, 8]),
        ):
            self.assertEqual(last(*start, stretch(3, step), get(4, 65534, 9)), told, step)

    def test_no_more_than_65536_samples(self):
        samples = [k % 7 for k in range(8192)]
        for extra, size in (([], 65534), ([5], 65536), ([5, 6], 65536), ([5] * 100, 65536)):
            told = ask(*doubled(samples, 2), row(9, extra), join(2, 3), stretch(4, 32768), get(5, 65533, 9))
            self.assertEqual(told[-1][0], size)
            self.assertEqual(len(told[-1]) - 2, size - 65533)

    def test_rows_of_none_and_of_one(self):
        for samples in ([], [5]):
            for step, rate in ((1, 65536), (65536, 100), (16777216, 1)):
                self.assertEqual(stretched(samples, step), [0, rate])

    def test_rate_is_cut_and_held_at_both_ends(self):
        for rate, step, made in (
            (100, 65536, 100), (100, 32768, 200), (3, 131072, 1), (1, 131072, 1), (1, 16777216, 1), (255, 16777216, 1),
            (256, 16777216, 1), (511, 16777216, 1), (512, 16777216, 2), (65536, 16777216, 256), (65536, 65536, 65536),
            (65536, 65535, 65536), (65535, 65535, 65536), (65535, 65536, 65535), (1, 1, 65536), (2, 1, 65536),
            (65536, 1, 65536), (1, 2, 32768), (1, 3, 21845), (5, 40000, 8), (65536, 65537, 65535), (1, 65537, 1),
        ):
            self.assertEqual(stretched([], step, rate), [0, made], (rate, step))

    def test_out_of_range(self):
        for step in (0, -1, 16777217) + ENDS:
            self.assertEqual(last(row(9, [1, 2]), stretch(0, step)), [-8], step)
        for step in (1, 16777216):
            self.assertEqual(last(row(9, [1, 2]), stretch(0, step)), [1], step)

    def test_no_such_row(self):
        for a in (-1, 1) + ENDS:
            self.assertEqual(last(row(9, [1]), stretch(a, 65536)), [-2], a)

    def test_which_refusal_comes_first(self):
        self.assertEqual(ask(stretch(0, 0), stretch(-1, 16777217), stretch(0, 1)), [[-8], [-8], [-2]])
        told = ask(*rows_made(256), stretch(0, 0), stretch(256, 0), stretch(256, 1), stretch(-1, 1), stretch(255, 1))
        self.assertEqual(told[-5:], [[-8], [-8], [-2], [-2], [-1]])


class MixTest(unittest.TestCase):
    def test_halves(self):
        self.assertEqual(mixed([100, 7, -30], [50, 1, 10], 16384, 16384), [75, 4, -10])
        self.assertEqual(mixed([100, 7, -30], [50, 1, 10], 16384, -16384), [25, 3, -20])

    def test_the_first_goes_with_c_and_the_second_with_d(self):
        self.assertEqual(mixed([100, 200], [7, 9], 16384, 0), [50, 100])
        self.assertEqual(mixed([100, 200], [8, 10], 0, 16384), [4, 5])
        self.assertEqual(mixed([100, 200], [8, 10], LOW, 0), [-100, -200])

    def test_a_half_goes_up(self):
        self.assertEqual(mixed([1, -1, 3, -3], [0] * 4, 16384, 0), [1, 0, 2, -1])
        self.assertEqual(mixed([1, 3], [2, -4], 16384, 16384), [2, 0])

    def test_rounded_once(self):
        self.assertEqual(mixed([1, -1], [1, -1], 8192, 8192), [1, 0])
        self.assertEqual(mixed([1], [1], 16384, 16384), [1])

    def test_held_on_both_sides(self):
        self.assertEqual(mixed([LOW, HIGH], [LOW, HIGH], LOW, LOW), [HIGH, LOW])
        self.assertEqual(mixed([LOW, HIGH], [LOW, HIGH], HIGH, HIGH), [LOW, HIGH])
        self.assertEqual(mixed([LOW], [5], LOW, 0), [HIGH])
        # 32766 and -32767 of the first; what the second gives leads just to the end and one beyond.
        self.assertEqual(mixed([HIGH] * 4, [0, 1, 2, 3], HIGH, HIGH), [32766, 32767, 32767, 32767])
        self.assertEqual(mixed([LOW] * 4, [0, -1, -2, -3], HIGH, HIGH), [-32767, -32768, -32768, -32768])

    def test_held_once_at_the_end(self):
        self.assertEqual(mixed([LOW], [HIGH], LOW, LOW), [1])
        self.assertEqual(mixed([LOW], [100], LOW, HIGH), [HIGH])
        self.assertEqual(mixed([LOW], [-100], LOW, HIGH), [32668])

    def test_rate_of_the_first_row(self):
        told = ask(row(10, [1]), row(65536, [2]), mix(0, 1, 1, 1), get(2), mix(1, 0, 1, 1), get(3))
        self.assertEqual(told[2:], [[2], [1, 10, 0], [3], [1, 65536, 0]])

    def test_a_row_with_itself(self):
        self.assertEqual(last(row(10, [5, -6]), mix(0, 0, HIGH, HIGH), get(1)), [2, 10, 10, -12])

    def test_rows_of_none_and_of_65536(self):
        self.assertEqual(last(row(10, []), row(11, []), mix(0, 1, 5, 5), get(2)), [0, 10])
        told = ask(*doubled([1, 2, 3, -4] * 2048, 3), mix(3, 3, 16384, HIGH), get(4, 65532, 9))
        self.assertEqual(told[-1], [65536, 9, 1, 3, 4, -6])
        samples = [k - 32768 for k in range(65536)]
        told = ask(row(9, samples), mix(0, 0, LOW, 0), *[get(1, at, 4096) for at in range(0, 65536, 4096)])
        self.assertEqual([x for part in told[2:] for x in part[2:]], [HIGH] + [-x for x in samples[1:]])

    def test_refusals(self):
        start = [row(10, [1, 2]), row(10, [3]), row(10, [4, 5]), row(10, [])]
        for call, answer in (
            (mix(0, 2, 1, 1), 4), (mix(0, 2, LOW, LOW), 4), (mix(0, 2, HIGH, HIGH), 4),
            (mix(0, 2, LOW - 1, 1), -8), (mix(0, 2, 1, LOW - 1), -8), (mix(0, 2, HIGH + 1, 1), -8),
            (mix(0, 2, 1, HIGH + 1), -8), (mix(0, 2, ENDS[0], 1), -8), (mix(0, 2, 1, ENDS[1]), -8),
            (mix(4, 0, 1, 1), -2), (mix(0, 4, 1, 1), -2), (mix(-1, 0, 1, 1), -2), (mix(0, -1, 1, 1), -2),
            (mix(ENDS[0], 0, 1, 1), -2), (mix(0, ENDS[1], 1, 1), -2),
            (mix(0, 1, 1, 1), -3), (mix(1, 0, 1, 1), -3), (mix(0, 3, 1, 1), -3), (mix(3, 1, 1, 1), -3),
            # Two at once.
            (mix(4, 0, LOW - 1, 1), -8), (mix(0, -1, 1, HIGH + 1), -8), (mix(0, 1, HIGH + 1, 1), -8),
        ):
            with self.subTest(call=call):
                self.assertEqual(last(*start, call), [answer])

    def test_full_comes_behind_missing_and_before_unfit(self):
        start = rows_made(254) + [row(1, [1]), row(1, [1, 2])]
        for call, answer in (
            (mix(254, 254, 1, 1), -1), (mix(254, 255, 1, 1), -1), (mix(254, 256, 1, 1), -2), (mix(256, 255, 1, 1), -2),
            (mix(254, 255, HIGH + 1, 1), -8), (mix(256, 255, 1, LOW - 1), -8),
        ):
            with self.subTest(call=call):
                self.assertEqual(last(*start, call), [answer])


class JoinTest(unittest.TestCase):
    def test_one_behind_another(self):
        told = ask(row(10, [1, LOW]), row(11, [HIGH, 4, 5]), join(0, 1), get(2), join(1, 0), get(3))
        self.assertEqual(told[2:], [[2], [5, 10, 1, LOW, HIGH, 4, 5], [3], [5, 11, HIGH, 4, 5, 1, LOW]])

    def test_a_row_with_itself(self):
        self.assertEqual(last(row(10, [1, 2]), join(0, 0), get(1)), [4, 10, 1, 2, 1, 2])

    def test_rows_of_none(self):
        told = ask(row(10, []), row(11, [7]), join(0, 0), join(0, 1), join(1, 0), get(2), get(3), get(4))
        self.assertEqual(told[5:], [[0, 10], [1, 10, 7], [1, 11, 7]])

    def test_65536_samples_and_one_more(self):
        start = doubled(list(range(8192)), 3) + [row(8, []), row(8, [5]), row(8, [6, 7])]
        told = ask(
            *start, join(3, 4), join(4, 3), join(3, 5), join(5, 3), join(3, 3), get(3, 65535, 2), get(7, 65535, 2),
            get(8, 65535, 2), state(),
        )
        self.assertEqual(told[7:12], [[7], [8], [-3], [-3], [-3]])
        self.assertEqual(told[12:], [[65536, 9, 8191], [65536, 9, 8191], [65536, 8, 8191], [0, 0, 9, 0]])

    def test_one_sample_below_the_end(self):
        start = doubled(list(range(8192)), 3) + [thin(3, 2, 0), stretch(3, 65536), row(8, [5]), row(8, [6, 7])]
        # Row 4 has 32768 samples, row 5 has 65535.
        told = ask(*start, join(4, 4), join(5, 6), join(6, 5), join(5, 7), join(7, 5), get(9, 65534, 3), get(10, 0, 2))
        self.assertEqual(told[8:], [[8], [9], [10], [-3], [-3], [65536, 9, 8190, 5], [65536, 8, 5, 0]])

    def test_refusals(self):
        start = doubled([1, 2] * 4096, 3)
        for call, answer in (
            (join(2, 2), 4), (join(3, 0), -3), (join(0, 3), -3), (join(4, 0), -2), (join(0, 4), -2), (join(-1, 0), -2),
            (join(0, -1), -2), (join(ENDS[0], 0), -2), (join(0, ENDS[1]), -2), (join(3, 4), -2),
        ):
            with self.subTest(call=call):
                self.assertEqual(last(*start, call), [answer])

    def test_full_comes_behind_missing_and_before_unfit(self):
        start = rows_made(252) + [row(1, [1] * 8192), join(252, 252), join(253, 253), join(254, 254)]
        for call, answer in (
            (join(252, 252), -1), (join(255, 252), -1), (join(255, 255), -1), (join(255, 256), -2), (join(-1, 255), -2),
        ):
            with self.subTest(call=call):
                self.assertEqual(last(*start, call), [answer])


MAKERS = (thin(0, 2, 1), stretch(0, 32768), mix(0, 1, 16384, 8192), join(0, 1))


class AllFourTest(unittest.TestCase):
    def test_the_old_rows_stay_as_they_were(self):
        rows = [row(5, [100, -200, 300]), row(6, [7, 8, 9])]
        for call in MAKERS:
            told = ask(*rows, call, get(0), get(1), state())
            self.assertEqual(told[2:], [[2], [3, 5, 100, -200, 300], [3, 6, 7, 8, 9], [0, 0, 3, 0]], call)

    def test_the_256th_row_may_still_be_made(self):
        for call in MAKERS:
            told = ask(*rows_made(255), call, get(255), call, state())
            self.assertEqual(told[-4], [255])
            self.assertEqual(told[-2:], [[-1], [0, 1, 256, 0]])

    def test_rows_that_are_made_are_rows_like_others(self):
        told = ask(
            row(8, [0, 10, 20, 30, 40]), thin(0, 2, 0), stretch(1, 32768), mix(2, 2, 16384, 16384), join(3, 1), get(4),
        )
        self.assertEqual(told[-1], [7, 8, 0, 10, 20, 30, 0, 20, 40])


if __name__ == "__main__":
    unittest.main()
