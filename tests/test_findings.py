"""Points 14 to 18: patterns, passes, late, sums and state."""

import unittest

from tests.helper import (
    ask, doubled, filter_, get, join, last, late, mix, new, passes, patterns, places_track, row, rows_made, run, sense,
    state, still, stretch, sums, thin, track_bits,
)
from tests.model import lag_sum

LOW = -32768
HIGH = 32767
ENDS = (-2147483648, 2147483647)


def patterned(samples, k):
    told = last(row(9, samples), patterns(0, 0, k))
    assert told[0] == 0, told
    return told[1:]


class PatternsTest(unittest.TestCase):
    def test_k_0_tells_the_sample(self):
        self.assertEqual(last(row(9, [5, LOW, HIGH]), patterns(0, 0, 0)), [0, 5])
        self.assertEqual(last(row(9, [5, LOW, HIGH]), patterns(0, 2, 0)), [0, HIGH])

    def test_two(self):
        self.assertEqual(patterned([6, 2], 1), [4, 2])
        self.assertEqual(patterned([2, 6], 1), [4, -2])

    def test_odd_sums_and_differences_on_either_side_of_0(self):
        for x, y, told in (
            (5, 2, [4, 2]), (2, 5, [4, -1]), (-5, 2, [-1, -3]), (2, -5, [-1, 4]), (-5, -2, [-3, -1]), (-2, -5, [-3, 2]),
            (0, 1, [1, 0]), (1, 0, [1, 1]), (0, -1, [0, 1]), (-1, 0, [0, 0]),
        ):
            self.assertEqual(patterned([x, y], 1), told, (x, y))

    def test_four(self):
        # By h = 1: 2, 0, 4, 0. By h = 2: 3, 0, -1, 0.
        self.assertEqual(patterned([1, 2, 3, 4], 2), [3, 0, -1, 0])
        self.assertEqual(patterned([8, 0, 0, 0], 2), [2, 2, 2, 2])
        self.assertEqual(patterned([0, 8, 0, 0], 2), [2, -2, 2, -2])
        self.assertEqual(patterned([0, 0, 8, 0], 2), [2, 2, -2, -2])

    def test_the_small_distances_come_first(self):
        # By h = 1: 0, 0, 2, -1. By h = 2: 1, 0, -1, 1. The other way round it would be 1, -1, 0, 1.
        self.assertEqual(patterned([0, 0, 0, 3], 2), [1, 0, -1, 1])

    def test_eight(self):
        self.assertEqual(patterned([80, 0, 0, 0, 0, 0, 0, 0], 3), [10] * 8)
        self.assertEqual(patterned([0, 0, 0, 0, 0, 80, 0, 0], 3), [10, -10, 10, -10, -10, 10, -10, 10])

    def test_numbers_that_are_no_samples(self):
        # The document holds samples; these numbers it does not hold.
        self.assertEqual(patterned([HIGH, LOW], 1), [0, 32768])
        self.assertEqual(patterned([LOW, HIGH], 1), [0, -32767])
        self.assertEqual(patterned([LOW, LOW], 1), [LOW, 0])
        self.assertEqual(patterned([HIGH, LOW, LOW, HIGH], 2), [0, 1, 0, 32768])

    def test_k_10(self):
        self.assertEqual(patterned([HIGH] * 1024, 10), [HIGH] + [0] * 1023)
        self.assertEqual(patterned([HIGH, -HIGH] * 512, 10), [0, HIGH] + [0] * 1022)
        self.assertEqual(patterned([30, -30] * 256 + [-30, 30] * 256, 10), [0] * 513 + [30] + [0] * 510)
        self.assertEqual(patterned([1024] + [0] * 1023, 10), [1] * 1024)

    def test_from_the_from_th_on(self):
        samples = [9, 9, 9, 1, 2, 3, 4, 9]
        self.assertEqual(last(row(9, samples), patterns(0, 3, 2)), [0, 3, 0, -1, 0])
        self.assertEqual(last(*doubled([3, 1] * 4096, 3), patterns(3, 65535, 0)), [0, 1])
        self.assertEqual(last(*doubled([3, 1] * 4096, 3), patterns(3, 64512, 10)), [0, 2, 1] + [0] * 1022)

    def test_just_enough_and_one_too_few(self):
        for k in range(11):
            size = 2 ** k
            self.assertEqual(patterned([7] * size, k), [7] + [0] * (size - 1))
            self.assertEqual(last(row(9, [7] * (size - 1)), patterns(0, 0, k)), [-3], k)
            self.assertEqual(last(row(9, [7] * size), patterns(0, 1, k)), [-3], k)
            self.assertEqual(last(row(9, [7] * (size + 1)), patterns(0, 1, k)), [0, 7] + [0] * (size - 1), k)

    def test_refusals(self):
        start = [row(9, [1, 2, 3]), row(9, [])]
        for call, answer in (
            (patterns(0, -1, 0), -8), (patterns(0, ENDS[0], 0), -8), (patterns(0, 0, -1), -8), (patterns(0, 0, 11), -8),
            (patterns(0, 0, ENDS[0]), -8), (patterns(0, 0, ENDS[1]), -8), (patterns(2, 0, 0), -2),
            (patterns(-1, 0, 0), -2), (patterns(ENDS[0], 0, 0), -2), (patterns(ENDS[1], 0, 0), -2),
            (patterns(0, 3, 0), -3), (patterns(0, 2, 1), -3), (patterns(0, ENDS[1], 0), -3), (patterns(0, 0, 2), -3),
            (patterns(0, 0, 10), -3), (patterns(1, 0, 0), -3),
            # Two at once.
            (patterns(2, -1, 0), -8), (patterns(2, 0, 11), -8), (patterns(0, 9, -1), -8), (patterns(2, 9, 3), -2),
        ):
            with self.subTest(call=call):
                self.assertEqual(last(*start, call), [answer])


class PassesTest(unittest.TestCase):
    def check(self, samples, low, high, told):
        with self.subTest(samples=samples, low=low, high=high):
            changes = [x for change in told for x in change]
            self.assertEqual(last(row(9, samples), passes(0, low, high)), [len(told)] + changes)

    def test_up_and_down(self):
        self.check([0, 50, 100, 50, 0, -50, 0, 200], 0, 100, [(2, 1), (5, 0), (7, 1)])

    def test_just_at_high(self):
        self.check([99, 100, 99], 0, 100, [(1, 1)])
        self.check([99, 99], 0, 100, [])
        self.check([101], 0, 100, [(0, 1)])

    def test_just_at_low(self):
        self.check([100, 5, 4, 5], 5, 100, [(0, 1), (2, 0)])
        self.check([100, 5, 5], 5, 100, [(0, 1)])

    def test_at_first_it_is_down(self):
        self.check([-5, -6, -7], 0, 10, [])
        self.check([10], 0, 10, [(0, 1)])
        self.check([5, 5], 0, 10, [])

    def test_what_is_up_stays_up_and_what_is_down_down(self):
        self.check([20, 30, 10, 20, -1, -2, 9, -3, 10], 0, 10, [(0, 1), (4, 0), (8, 1)])

    def test_low_equal_to_high(self):
        self.check([6, 7, 8, 7, 6, 7, 6, 6, 9], 7, 7, [(1, 1), (4, 0), (5, 1), (6, 0), (8, 1)])
        self.check([-1, 0, -1, 0], 0, 0, [(1, 1), (2, 0), (3, 1)])

    def test_ends_of_the_samples(self):
        self.check([LOW, HIGH, LOW], LOW, LOW, [(0, 1)])
        self.check([HIGH - 1, HIGH, HIGH - 1, HIGH], HIGH, HIGH, [(1, 1), (2, 0), (3, 1)])
        self.check([LOW, HIGH, LOW], LOW, HIGH, [(1, 1)])
        self.check([LOW, HIGH, LOW], LOW + 1, HIGH, [(1, 1), (2, 0)])

    def test_a_row_of_none(self):
        self.check([], 0, 0, [])

    def test_most(self):
        start = [row(9, [1, -1, 1, -1, 1])]
        whole = [5, 0, 1, 1, 0, 2, 1, 3, 0, 4, 1]
        for most in (0, 1, 2, 3, 4, 5, 6, 4096):
            self.assertEqual(last(*start, passes(0, 0, 1, most)), whole[:1 + 2 * most], most)
        self.assertEqual(last(row(9, [0]), passes(0, 0, 1, 0)), [0])

    def test_more_changes_than_may_be_told(self):
        start = doubled([1, -1] * 4096, 3)
        told = last(*start, passes(3, 0, 1))
        self.assertEqual(told, [65536] + [x for k in range(4096) for x in (k, 1 - k % 2)])
        self.assertEqual(last(*start, passes(3, 0, 1, 4095)), told[:-2])

    def test_a_change_at_the_last_of_65536(self):
        start = doubled([0] * 8192, 3) + [stretch(3, 65536), row(9, [4]), join(4, 5)]
        self.assertEqual(last(*start, passes(6, 4, 4)), [1, 65535, 1])

    def test_refusals(self):
        start = [row(9, [1, 2, 3])]
        for call, answer in (
            (passes(0, LOW, HIGH, 0), 0), (passes(0, HIGH, HIGH, 4096), 0), (passes(0, LOW - 1, HIGH, 5), -8),
            (passes(0, LOW, HIGH + 1, 5), -8), (passes(0, LOW - 1, LOW - 1, 5), -8),
            (passes(0, HIGH + 1, HIGH + 1, 5), -8), (passes(0, 1, 0, 5), -8), (passes(0, HIGH, LOW, 5), -8),
            (passes(0, ENDS[0], ENDS[1], 5), -8), (passes(0, 0, 9, -1), -8), (passes(0, 0, 9, 4097), -8),
            (passes(0, 0, 9, ENDS[0]), -8), (passes(0, 0, 9, ENDS[1]), -8), (passes(1, 0, 9, 5), -2),
            (passes(-1, 0, 9, 5), -2), (passes(ENDS[0], 0, 9, 5), -2), (passes(ENDS[1], 0, 9, 5), -2),
            # Two at once.
            (passes(1, 1, 0, 5), -8), (passes(-1, 0, 9, 4097), -8), (passes(1, LOW - 1, 0, 5), -8),
        ):
            with self.subTest(call=call):
                self.assertEqual(last(*start, call), [answer])


class LateTest(unittest.TestCase):
    def check(self, xs, ys, most, d, s):
        with self.subTest(xs=xs, ys=ys, most=most):
            self.assertEqual(last(row(9, xs), row(10, ys), late(0, 1, most)), [0, d, s])

    def test_behind_and_ahead(self):
        self.check([5, 0, 0, 0], [0, 0, 7, 0], 3, 2, 35)
        self.check([0, 0, 7, 0], [5, 0, 0, 0], 3, -2, 35)
        self.check([1, 2, 3], [1, 2, 3], 2, 0, 14)

    def test_beyond_most_it_is_not_looked_at(self):
        self.check([5, 0, 0, 0], [1, 0, 7, 0], 2, 2, 35)
        self.check([5, 0, 0, 0], [1, 0, 7, 0], 1, 0, 5)
        self.check([5, 0, 0, 0], [1, 0, 7, 0], 0, 0, 5)
        self.check([0, 0, 5], [7, 0, 1], 2, -2, 35)
        self.check([0, 0, 5], [7, 0, 1], 1, 0, 5)

    def test_of_equal_ones_the_nearest_to_0(self):
        self.check([1, 0, 0, 0], [0, 1, 0, 1], 3, 1, 1)
        self.check([0, 0, 0, 1], [1, 0, 1, 0], 3, -1, 1)
        self.check([0, 0, 1, 0, 0], [0, 1, 0, 0, 1], 4, -1, 1)
        self.check([0, 0, 1, 0, 0], [1, 0, 0, 1, 0], 4, 1, 1)
        self.check([0, 1, 0], [1, 1, 1], 1, 0, 1)

    def test_of_two_so_the_one_above_0(self):
        self.check([0, 1, 0], [1, 0, 1], 1, 1, 1)
        self.check([0, 0, 1, 0, 0], [1, 0, 0, 0, 1], 4, 2, 1)
        self.check([1, 1], [-1, -1], 1, 1, -1)

    def test_where_no_two_samples_meet_the_sum_is_0(self):
        self.check([1], [-1], 0, 0, -1)
        self.check([1], [-1], 1, 1, 0)
        self.check([1], [-1], 1024, 1, 0)
        self.check([1, 1], [-1, -1], 2, 2, 0)
        self.check([1, 1], [-1, -1, -1, -1], 3, -2, 0)
        self.check([1, 1, 1, 1], [-1, -1], 3, 2, 0)

    def test_nothing_but_0(self):
        self.check([0, 0, 0], [5, 6, 7], 2, 0, 0)
        self.check([0] * 5, [0] * 5, 1024, 0, 0)

    def test_rows_of_none(self):
        for most in (0, 1, 1024):
            self.check([], [], most, 0, 0)
            self.check([], [5, 6], most, 0, 0)
            self.check([-5, 6], [], most, 0, 0)

    def test_rows_of_unlike_lengths(self):
        self.check([3], [1, 2, 5, 4], 3, 2, 15)
        self.check([1, 2, 5, 4], [3], 3, -2, 15)
        self.check([1, 2], [0, 0, 0, 1, 2, 0], 5, 3, 5)
        self.check([1, 2], [0, 0, 0, 1, 2, 0], 2, 2, 2)

    def test_most_greater_than_either_row(self):
        self.check([1, 2, 3], [3, 2, 1], 1024, -1, 12)
        self.check([1, 0, 0], [0, 0, 1], 1024, 2, 1)

    def test_a_row_with_itself(self):
        self.assertEqual(last(row(9, [3, -4]), late(0, 0, 5)), [0, 0, 25])

    def test_most_1024(self):
        far = [0] * 1024 + [9]
        self.check([7], far, 1024, 1024, 63)
        self.check(far, [7], 1024, -1024, 63)
        self.check([7], far, 1023, 0, 0)
        self.check([7], [0] * 1025 + [9], 1024, 0, 0)
        self.check([0] * 1025 + [9], [7], 1024, 0, 0)

    def test_each_lag_on_its_own(self):
        # All sums but one are below 0, so none borrows from another unseen.
        for size in (1, 2, 1023, 1024, 1025, 2047, 2048, 2049):
            for lag in (0, 1, -1, 500, -500, 1023, -1023, 1024, -1024):
                at = size - 1
                ys = [-3] * 4000
                xs = [0] * at + [11]
                if 0 <= at + lag < 4000:
                    ys[at + lag] = 2
                    self.check(xs, ys, 1024, lag, 22)
                    self.check(xs, ys, abs(lag), lag, 22)

    def test_greatest_and_least_sums(self):
        low = doubled([LOW] * 8192, 3)
        self.assertEqual(last(*low, late(3, 3, 3)), [0, 0, 2 ** 46])
        high = [row(9, [HIGH] * 8192), join(4, 4), join(5, 5), join(6, 6)]
        told = ask(*low, *high, late(3, 7, 0), late(7, 3, 1), late(7, 7, 1024))
        least = 65536 * LOW * HIGH
        self.assertEqual(told[-3:], [[0, 0, least], [0, 1, least - LOW * HIGH], [0, 0, 65536 * HIGH * HIGH]])
        told = ask(*low, *high, late(3, 7, 1024))
        self.assertEqual(told[-1], [0, 1024, (65536 - 1024) * LOW * HIGH])

    def test_long_rows_lag_by_lag(self):
        xs = [(k * k * 31 + 7 * k) % 65536 - 32768 for k in range(5000)]
        ys = [(k * k * 17 + 3 * k) % 65536 - 32768 for k in range(3333)]
        found = [(lag_sum(xs, ys, d), -abs(d), d) for d in range(-1024, 1025)]
        self.check(xs, ys, 1024, max(found)[2], max(found)[0])
        found = [(lag_sum(ys, xs, d), -abs(d), d) for d in range(-300, 301)]
        self.check(ys, xs, 300, max(found)[2], max(found)[0])

    def test_how_late_a_row_of_65536_is(self):
        noise = [(k * k * 31 + 7 * k) % 2003 - 1000 for k in range(8192)]
        start = doubled(noise, 3) + [row(9, [0] * 777), stretch(3, 65536 + 800), join(4, 5)]
        told = ask(*start, late(5, 6, 1024), late(6, 5, 1024), sums(5))
        s = told[-1][4]
        self.assertEqual(told[-3:-1], [[0, 777, s], [0, -777, s]])

    def test_refusals(self):
        start = [row(9, [1, 2]), row(9, [3])]
        for call, answer in (
            (late(0, 1, -1), -8), (late(0, 1, 1025), -8), (late(0, 1, ENDS[0]), -8), (late(0, 1, ENDS[1]), -8),
            (late(2, 0, 1), -2), (late(0, 2, 1), -2), (late(-1, 0, 1), -2), (late(0, -1, 1), -2),
            (late(ENDS[0], 0, 1), -2), (late(0, ENDS[1], 1), -2),
            # Two at once.
            (late(2, 0, 1025), -8), (late(0, -1, -1), -8),
        ):
            with self.subTest(call=call):
                self.assertEqual(last(*start, call), [answer])


class SumsTest(unittest.TestCase):
    def check(self, samples, told):
        self.assertEqual(last(row(9, samples), sums(0)), told)

    def test_some(self):
        self.check([3, -4, 5], [3, -4, 5, 4, 50])

    def test_a_row_of_none(self):
        self.check([], [0, 0, 0, 0, 0])

    def test_a_row_of_one(self):
        self.check([7], [1, 7, 7, 7, 49])
        self.check([-7], [1, -7, -7, -7, 49])
        self.check([0], [1, 0, 0, 0, 0])

    def test_all_on_one_side_of_0(self):
        self.check([5, 9, 7], [3, 5, 9, 21, 155])
        self.check([-5, -9, -7], [3, -9, -5, -21, 155])

    def test_ends(self):
        self.check([LOW, HIGH], [2, LOW, HIGH, -1, 2147418113])

    def test_a_row_of_65536(self):
        self.assertEqual(last(*doubled([LOW] * 8192, 3), sums(3)), [65536, LOW, LOW, -2147483648, 2 ** 46])
        self.assertEqual(
            last(*doubled([HIGH] * 8192, 3), sums(3)), [65536, HIGH, HIGH, 2147418112, 65536 * HIGH * HIGH]
        )

    def test_no_such_row(self):
        for a in (-1, 1) + ENDS:
            self.assertEqual(last(row(9, [1]), sums(a)), [-2])
        self.assertEqual(last(sums(0)), [-2])


TRACK = places_track(8, [(1, 2, 3), (4, 5, 6), (0, 0, 0)])


class StateTest(unittest.TestCase):
    def test_a_new_bench(self):
        self.assertEqual(ask(state()), [[0, 0, 0, 0]])

    def test_each_of_them(self):
        filters = [filter_(0, [1]), filter_(4, [1]), filter_(0, [1])]
        told = ask(TRACK, state(), row(9, []), row(9, [1]), state(), *filters, state())
        self.assertEqual([told[1], told[4], told[8]], [[0, 1, 0, 0], [0, 1, 2, 0], [0, 1, 2, 3]])

    def test_what_makes_rows(self):
        told = ask(
            TRACK, sense(0, 0), state(), sense(0, 2), state(), filter_(0, [1]), run(0, 0), state(), thin(0, 1, 0),
            state(), stretch(0, 1), state(), mix(0, 0, 1, 1), state(), join(0, 0), state(),
        )
        self.assertEqual([part[2] for part in told if len(part) == 4], [3, 4, 5, 6, 7, 8, 9])

    def test_what_makes_none(self):
        start = [TRACK, row(9, [1, 2]), filter_(0, [1])]
        for call in (
            get(0), still(0), patterns(0, 0, 1), passes(0, 0, 1), late(0, 0, 5), sums(0), state(),
        ):
            self.assertEqual(last(*start, call, state()), [0, 1, 1, 1])

    def test_after_refusals(self):
        start = [TRACK, row(9, [1, 2]), row(9, [1]), filter_(0, [1]), filter_(4, [1])]
        for call in (
            track_bits(9, 1, []), sense(1, 0), sense(0, 4), row(0, [1]), get(2), filter_(9, []), run(0, 2), run(1, 0),
            still(2), thin(0, 0, 0), thin(2, 1, 0), stretch(0, 0), stretch(2, 1), mix(0, 1, 1, 1), mix(0, 0, 40000, 1),
            mix(0, 2, 1, 1), join(0, 2), patterns(0, 1, 1), patterns(0, 0, 11), passes(0, 1, 0), passes(2, 0, 1),
            late(0, 1, 1025), late(0, 2, 1), sums(2),
        ):
            told = ask(*start, call, state())
            self.assertEqual([len(told[-2]), told[-1]], [1, [0, 1, 2, 2]], call)
            self.assertLess(told[-2][0], 0)

    def test_after_new_has_come_again(self):
        told = ask(TRACK, row(9, [1]), filter_(0, [1]), state(), new(), state(), row(9, []), state())
        self.assertEqual([told[3], told[5], told[7]], [[0, 1, 1, 1], [0, 0, 0, 0], [0, 0, 1, 0]])

    def test_all_full(self):
        tracks = [TRACK] * 9
        rows = [sense(0, 0)] * 86 + [sense(0, 2)] * 2
        filters = [filter_(0, [1])] * 65
        self.assertEqual(last(*tracks, *rows, *filters, state()), [0, 8, 256, 64])


class FullBenchTest(unittest.TestCase):
    def test_what_makes_no_row_works_where_there_are_256(self):
        start = rows_made(255) + [row(9, [4, 2])]
        for call, answer in (
            (patterns(255, 0, 1), [0, 3, 1]), (passes(255, 3, 3), [2, 0, 1, 1, 0]), (late(255, 255, 9), [0, 0, 20]),
            (sums(255), [2, 2, 4, 6, 20]), (state(), [0, 1, 256, 0]), (patterns(255, 0, 2), [-3]),
            (patterns(256, 0, 0), [-2]), (passes(256, 0, 0), [-2]), (late(255, 256, 1), [-2]), (sums(256), [-2]),
        ):
            with self.subTest(call=call):
                self.assertEqual(last(*start, call), answer)

    def test_they_change_no_row(self):
        rows = [row(5, [100, -200, 300, 7]), row(6, [7, 8])]
        for call in (patterns(0, 0, 2), passes(0, 0, 50), late(0, 1, 9), late(1, 0, 9), sums(0), state()):
            told = ask(*rows, call, get(0), get(1))
            self.assertEqual(told[3:], [[4, 5, 100, -200, 300, 7], [2, 6, 7, 8]], call)


if __name__ == "__main__":
    unittest.main()
