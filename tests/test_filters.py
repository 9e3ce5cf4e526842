"""Points 6 to 9: filter, run, blend and still."""

import unittest

from tests.helper import ask, blend, filter_, filtered, get, last, row, rows_made, run, samples_of, still
from tests.model import Model

LOW = -32768
HIGH = 32767
FITTING = ((0, [1]), (1, [1]), (2, [1] * 5), (3, [1, 1]), (4, [1]))


class FilterTest(unittest.TestCase):
    def test_numbers_go_up_to_64(self):
        told = ask(*[filter_(*FITTING[k % 5]) for k in range(64)], filter_(0, [1]), filter_(4, [1]))
        self.assertEqual(told, [[k] for k in range(64)] + [[-1], [-1]])

    def test_kind(self):
        for kind in (-1, 5, -2147483648, 2147483647):
            for taps in ([], [1], [1, 2], [1] * 5, [1] * 64):
                self.assertEqual(last(filter_(kind, taps)), [-8], (kind, taps))

    def test_how_many_taps(self):
        allowed = {0: range(1, 65), 1: range(1, 65), 2: (5,), 3: (2,), 4: (1,)}
        for kind in range(5):
            for n in range(65):
                answer = 0 if n in allowed[kind] else -8
                self.assertEqual(last(filter_(kind, [1] * n)), [answer], (kind, n))

    def test_more_than_64_taps_or_taps_out_of_range(self):
        for kind in range(5):
            self.assertEqual(last(filter_(kind, [1] * 65)), [-8])
        for kind, taps in FITTING:
            for tap in (LOW - 1, HIGH + 1):
                self.assertEqual(last(filter_(kind, taps[:-1] + [tap])), [-8])

    def test_taps_at_their_ends(self):
        for kind, taps in FITTING:
            for tap in (LOW, HIGH):
                self.assertEqual(last(filter_(kind, [tap] * len(taps))), [0])

    def test_out_of_range_comes_before_full(self):
        told = ask(*[filter_(0, [1])] * 64, filter_(5, [1]), filter_(0, []), filter_(2, [1] * 4), filter_(0, [1]))
        self.assertEqual(told[64:], [[-8], [-8], [-8], [-1]])

    def test_a_refused_filter_takes_no_number(self):
        told = ask(filter_(0, [1]), filter_(3, [1]), filter_(9, [1]), filter_(4, [1]))
        self.assertEqual(told, [[0], [-8], [-8], [1]])


class SharpTest(unittest.TestCase):
    def test_taps_over_the_samples_before(self):
        self.assertEqual(filtered(0, [16384, 8192, -4096], [800, 0, 0, 0, 80]), [400, 200, -100, 0, 40])

    def test_half_goes_up(self):
        self.assertEqual(filtered(0, [16384], [1, -1, 3, -3, 2]), [1, 0, 2, -1, 1])

    def test_rounded_once_for_the_whole_sum(self):
        self.assertEqual(filtered(0, [8192, 8192], [1, 1, 1]), [0, 1, 1])

    def test_held_once_for_the_whole_sum(self):
        self.assertEqual(filtered(0, [LOW], [LOW, HIGH]), [HIGH, -32767])
        self.assertEqual(filtered(0, [HIGH, HIGH], [HIGH, HIGH, HIGH]), [32766, HIGH, HIGH])
        self.assertEqual(filtered(0, [HIGH, HIGH], [LOW, LOW, LOW]), [-32767, LOW, LOW])
        # Far beyond in between, yet back within at the end.
        self.assertEqual(filtered(0, [HIGH, HIGH, LOW, LOW], [HIGH] * 4)[3], -2)

    def test_64_taps(self):
        taps = [512 * (k + 1) - 1 for k in range(64)]
        samples = [64] + [0] * 70
        self.assertEqual(filtered(0, taps, samples), [(64 * tap + 16384) >> 15 for tap in taps] + [0] * 7)


class QuickTest(unittest.TestCase):
    def test_taps_over_the_samples_before(self):
        self.assertEqual(filtered(1, [16384, 8192, -4096], [800, 0, 0, 0, 80]), [400, 200, -100, 0, 40])

    def test_rounded_for_each_tap(self):
        self.assertEqual(filtered(1, [8192, 8192], [1, 1, 1]), [0, 0, 0])
        self.assertEqual(filtered(1, [16384, 16384], [1, 1, 1]), [1, 2, 2])
        self.assertEqual(filtered(1, [16384, 16384], [-1, -1, -1]), [0, 0, 0])
        self.assertEqual(filtered(1, [16383], [1, -1, 3]), [0, 0, 1])

    def test_each_part_is_held(self):
        # -1 from the newest sample; then -32768 times -32768 gives 32768, held to 32767 before it's added.
        self.assertEqual(filtered(1, [LOW, LOW], [LOW, 1])[1], 32766)
        self.assertEqual(filtered(1, [LOW], [LOW]), [HIGH])

    def test_each_sum_is_held(self):
        # 32766 + 32766 is held to 32767, then 32767 is taken off twice.
        self.assertEqual(filtered(1, [HIGH, HIGH, LOW, LOW], [HIGH] * 4)[3], -32767)
        # -32767 - 32767 is held to -32768, then 32767 comes on twice.
        self.assertEqual(filtered(1, [HIGH, HIGH, LOW, LOW], [LOW] * 4)[3], 32766)
        self.assertEqual(filtered(1, [HIGH, HIGH, LOW], [LOW] * 3)[2], -1)

    def test_in_the_taps_order(self):
        # 32766 and 32766, held to 32767, then 32767 off; or -32767 first, so that nothing is held.
        self.assertEqual(filtered(1, [HIGH, HIGH, LOW], [HIGH, HIGH, HIGH])[2], 0)
        self.assertEqual(filtered(1, [LOW, HIGH, HIGH], [HIGH, HIGH, HIGH])[2], 32765)

    def test_64_taps(self):
        taps = [512 * (k + 1) - 1 for k in range(64)]
        samples = [64] + [0] * 70
        self.assertEqual(filtered(1, taps, samples), [(64 * tap + 16384) >> 15 for tap in taps] + [0] * 7)


class RoundTest(unittest.TestCase):
    def test_over_samples(self):
        self.assertEqual(filtered(2, [16384, 8192, -4096, 0, 0], [800, 0, 0, 0]), [800, 400, -200, 0])

    def test_over_what_came_of_them(self):
        self.assertEqual(filtered(2, [16384, 0, 0, -8192, 0], [800, 0, 0, 0]), [800, 400, 200, 100])
        self.assertEqual(filtered(2, [16384, 0, 0, 8192, 0], [800, 0, 0, 0]), [800, -400, 200, -100])
        self.assertEqual(filtered(2, [16384, 0, 0, 0, -8192], [800, 0, 0, 0, 0]), [800, 0, 400, 0, 200])

    def test_half_goes_up(self):
        self.assertEqual(filtered(2, [8192, 0, 0, 0, 0], [1, -1, 3, -3]), [1, 0, 2, -1])

    def test_held_to_16_bits_and_remembered_so(self):
        self.assertEqual(filtered(2, [HIGH, 0, 0, 0, 0], [HIGH, LOW, 100]), [HIGH, LOW, 200])
        # What comes next is from 32767 and -32768, not from 65532 and -65534.
        self.assertEqual(filtered(2, [HIGH, 0, 0, -8192, 0], [HIGH, 0, 0]), [HIGH, 16384, 8192])
        self.assertEqual(filtered(2, [HIGH, 0, 0, -8192, 0], [LOW, 0, 0]), [LOW, -16384, -8192])

    def test_all_five_at_once(self):
        # 100; 200 + 50 + 100; 300 + 100 + 25 + 350 - 100; 0 + 150 + 50 + 675 - 350.
        self.assertEqual(filtered(2, [16384, 8192, 4096, -16384, 16384], [100, 200, 300, 0]), [100, 350, 675, 525])


class FollowerTest(unittest.TestCase):
    def test_by_hand(self):
        # x 100: e 25600, p 12800, v 6400, tells 50. Then p 19200, e 6400, p 22400, v 8000, tells 87.5, up.
        # Then p 30400, e -4800, p 28000, v 6800, tells 109.375.
        self.assertEqual(filtered(3, [16384, 8192], [100, 100, 100]), [50, 88, 109])

    def test_place_alone(self):
        self.assertEqual(filtered(3, [16384, 0], [100, 100, 0, 0]), [50, 75, 38, 19])

    def test_pace_alone(self):
        # It goes on with the pace it has: 0, then 256 x 64 / 2, ...
        self.assertEqual(filtered(3, [0, 16384], [64, 32, 32, 32]), [0, 32, 64, 80])

    def test_told_samples_are_held(self):
        self.assertEqual(filtered(3, [LOW, 0], [HIGH, HIGH, HIGH]), [-32767, LOW, LOW])
        self.assertEqual(filtered(3, [LOW, 0], [LOW, LOW, LOW]), [HIGH, HIGH, HIGH])

    def test_place_held_to_32_bits(self):
        # p = 2 p - 256 x: once it is at an end it stays there, whatever comes.
        for x, end in ((1, LOW), (-1, HIGH)):
            told = filtered(3, [LOW, 0], [x] + [0] * 40 + [HIGH, LOW] * 5)
            self.assertEqual(told[20:], [end] * 31)

    def test_swings_that_meet_both_ends(self):
        # With these taps an end that is one off, or missing, or a difference that is held, shows.
        for taps in (
            [-8154, 32528], [-8373, 31313], [-11306, 20272], [-8763, 18627], [-5081, 9121], [-4735, 7969],
            [-6412, 32753], [-10733, 32585],
        ):
            self.check(taps, [HIGH, LOW] * 125)
        self.check([-9130, 30940], [LOW] + [0] * 250)
        self.check([-9970, 4423], [-27989] + [0] * 250)

    def check(self, taps, samples):
        told = filtered(3, taps, samples)
        self.assertEqual(told, model_run(3, taps, [samples]))
        self.assertIn(HIGH, told[150:])
        self.assertIn(LOW, told[150:])


def model_run(kind, taps, rows):
    """What the slow model makes of one row, or of two."""
    model = Model()
    model.filter(kind, taps)
    for samples in rows:
        model.row(10, samples)
    if kind == 4:
        model.blend(0, 0, 1)
    else:
        model.run(0, 0)
    return model.rows[-1][1]


def blended(tap, xs, ys):
    return samples_of(filter_(4, [tap]), row(10, xs), row(11, ys), blend(0, 0, 1), get(2))


class BlendTest(unittest.TestCase):
    def test_by_hand(self):
        # p 2560, e 23040, p 14080, tells 55. Then p 19200, e 6400, p 22400, tells 87.5, up.
        self.assertEqual(blended(16384, [10, 20], [100, 100]), [55, 88])

    def test_with_no_tap_it_adds_up(self):
        self.assertEqual(blended(0, [1, 2, 3, -10], [500, 500, 500, 500]), [1, 3, 6, -4])

    def test_the_first_row_moves_and_the_second_draws(self):
        self.assertEqual(blended(16384, [0, 0], [100, 100]), [50, 75])
        self.assertEqual(blended(16384, [100, 100], [0, 0]), [50, 75])
        self.assertEqual(blended(8192, [0, 0], [100, 100]), [25, 44])
        self.assertEqual(blended(8192, [100, 100], [0, 0]), [75, 131])

    def test_told_samples_are_held(self):
        self.assertEqual(blended(0, [HIGH, 1, 1, -3], [0] * 4), [HIGH, HIGH, HIGH, 32766])
        self.assertEqual(blended(0, [LOW, -1, -1, 3], [0] * 4), [LOW, LOW, LOW, -32767])

    def test_place_held_to_32_bits_above(self):
        # Held at 2147483647, 256 times 8388608 less is -1: without holding it would be far above.
        told = blended(0, [HIGH] * 300 + [LOW] * 256, [0] * 556)
        self.assertEqual(told[:300] + told[553:], [HIGH] * 300 + [HIGH, HIGH, 0])

    def test_place_held_to_32_bits_below(self):
        told = blended(0, [LOW] * 300 + [HIGH] * 256, [0] * 556)
        self.assertEqual(told[:300] + told[553:], [LOW] * 300 + [LOW, LOW, -256])

    def test_each_sum_is_held_at_both_ends(self):
        # So many samples up and then down, or the other way round, with a tap that shows an end that's one off.
        for tap, up, count, y in (
            (35, HIGH, 305, HIGH), (-31, HIGH, 307, HIGH), (2, HIGH, 282, -8009), (-4, HIGH, 389, -22760),
            (5, LOW, 414, HIGH), (-34, LOW, 334, 27996), (21, LOW, 378, LOW), (-4, LOW, 415, -25937),
            (9, HIGH, 290, HIGH), (-5, HIGH, 328, -4361), (5, LOW, 320, -28967), (-2, LOW, 336, 0),
        ):
            xs = [up] * count + [-1 - up] * 300
            ys = [y] * len(xs)
            told = blended(tap, xs, ys)
            self.assertEqual(told, model_run(4, [tap], [xs, ys]))
            self.assertEqual(told[100:count], [up] * (count - 100))

    def test_the_second_sum_runs_into_both_ends(self):
        # p = 2 p - 256 y: at an end after 32 samples at most, where it stays.
        for x, end in ((1, HIGH), (-1, LOW)):
            self.assertEqual(blended(LOW, [x] + [0] * 40, [0] * 41)[20:], [end] * 21)

    def test_rate_of_the_first_row(self):
        told = ask(filter_(4, [1]), row(10, [1]), row(11, [2]), blend(0, 0, 1), get(2), blend(0, 1, 0), get(3))
        self.assertEqual([told[4][1], told[6][1]], [10, 11])

    def test_a_row_with_itself(self):
        self.assertEqual(last(filter_(4, [0]), row(10, [5, 6]), blend(0, 0, 0), get(1)), [2, 10, 5, 11])

    def test_refusals(self):
        start = [filter_(0, [1]), filter_(4, [1]), row(10, [1, 2]), row(10, [3]), row(10, [4, 5])]
        for call, answer in (
            (blend(1, 0, 2), 3), (blend(1, 0, 1), -3), (blend(1, 1, 0), -3), (blend(0, 0, 2), -3), (blend(0, 0, 1), -3),
            (blend(2, 0, 2), -2), (blend(-1, 0, 2), -2), (blend(1, 3, 0), -2), (blend(1, 0, 3), -2),
            (blend(1, -1, 0), -2), (blend(1, 0, -1), -2), (blend(0, 0, 3), -2), (blend(2147483647, 0, 0), -2),
            (blend(1, -2147483648, 0), -2), (blend(1, 0, 2147483647), -2),
        ):
            with self.subTest(call=call):
                self.assertEqual(last(*start, call), [answer])

    def test_empty_rows(self):
        self.assertEqual(last(filter_(4, [1]), row(10, []), row(11, []), blend(0, 0, 1), get(2)), [0, 10])


class RunTest(unittest.TestCase):
    def test_number_and_rate(self):
        for kind, taps in FITTING[:4]:
            told = ask(filter_(kind, taps), row(5, [1]), row(77, [1, 2]), run(0, 1), get(2), run(0, 0), get(3))
            self.assertEqual([told[3], told[4][:2], told[5], told[6][:2]], [[2], [2, 77], [3], [1, 5]])

    def test_the_row_stays_as_it_was(self):
        for kind, taps in FITTING[:4]:
            told = ask(filter_(kind, taps), row(5, [100, 200, 300]), run(0, 0), get(0))
            self.assertEqual(told[3], [3, 5, 100, 200, 300])

    def test_an_empty_row(self):
        for kind, taps in FITTING[:4]:
            told = ask(filter_(kind, taps), row(5, []), run(0, 0), get(1))
            self.assertEqual(told[2:], [[1], [0, 5]])

    def test_a_row_shorter_than_the_taps(self):
        told = samples_of(
            filter_(0, [0, 0, 0, 32767]), row(5, [100, 200]), row(5, [0, 0, 0, 0]), run(0, 0), run(0, 1), get(3)
        )
        self.assertEqual(told, [0, 100, 200, 0])

    def test_refusals(self):
        start = [filter_(0, [1]), filter_(4, [1]), row(10, [1, 2])]
        for call, answer in (
            (run(0, 0), 1), (run(1, 0), -3), (run(2, 0), -2), (run(-1, 0), -2), (run(0, 1), -2), (run(0, -1), -2),
            (run(1, 1), -2), (run(2147483647, 0), -2), (run(0, -2147483648), -2),
        ):
            with self.subTest(call=call):
                self.assertEqual(last(*start, call), [answer])

    def test_full_comes_behind_missing_and_before_unfit(self):
        full = rows_made(256) + [filter_(0, [1]), filter_(4, [1])]
        for call, answer in (
            (run(0, 0), -1), (run(1, 0), -1), (run(2, 0), -2), (run(0, 256), -2), (run(1, 256), -2),
            (blend(1, 0, 0), -1), (blend(0, 0, 0), -1), (blend(2, 0, 0), -2), (blend(1, 0, 256), -2),
            (blend(0, 256, 0), -2),
        ):
            with self.subTest(call=call):
                self.assertEqual(last(*full, call), [answer])

    def test_full_comes_before_rows_of_two_lengths(self):
        told = ask(*rows_made(254), filter_(4, [1]), row(1, [1]), row(1, [1, 2]), blend(0, 254, 255))
        self.assertEqual(told[-1], [-1])

    def test_the_256th_row_may_still_be_made(self):
        told = ask(*rows_made(255), filter_(0, [1]), filter_(4, [1]), run(0, 0), run(0, 0), blend(1, 0, 0))
        self.assertEqual(told[-3:], [[255], [-1], [-1]])
        told = ask(*rows_made(255), filter_(4, [1]), blend(0, 0, 0), blend(0, 0, 0))
        self.assertEqual(told[-2:], [[255], [-1]])


MEMORY = (
    (0, [9000, -7000, 5000, 3000, -32768, 32767]),
    (1, [9000, -7000, 5000, 3000, -32768, 32767]),
    (2, [9000, 7000, -5000, -20000, 9000]),
    (3, [12000, 3000]),
    (4, [3000]),
)
SAMPLES = [30000, -12345, 77, 32767, -32768, 5, 9000, -9001, 123, 4567, -89, 32767]
OTHERS = [17, 8000, -8000, 32767, 32767, -32768, 0, 1, -20000, 300, 4, -5]


def through(kind, f, a, b):
    return blend(f, a, b) if kind == 4 else run(f, a)


class MemoryTest(unittest.TestCase):
    def test_in_pieces_as_at_once(self):
        for kind, taps in MEMORY:
            whole = samples_of(filter_(kind, taps), row(5, SAMPLES), row(5, OTHERS), through(kind, 0, 0, 1), get(2))
            self.assertEqual(len(whole), len(SAMPLES))
            for cut in range(len(SAMPLES) + 1):
                told = ask(
                    filter_(kind, taps), row(5, SAMPLES[:cut]), row(5, OTHERS[:cut]), row(6, SAMPLES[cut:]),
                    row(6, OTHERS[cut:]), through(kind, 0, 0, 1), through(kind, 0, 2, 3), get(4), get(5),
                )
                self.assertEqual(told[-2][2:] + told[-1][2:], whole, (kind, cut))

    def test_sample_by_sample_as_at_once(self):
        for kind, taps in MEMORY:
            whole = samples_of(filter_(kind, taps), row(5, SAMPLES), row(5, OTHERS), through(kind, 0, 0, 1), get(2))
            calls = [filter_(kind, taps)]
            for x, y in zip(SAMPLES, OTHERS):
                calls += [row(5, [x]), row(5, [y])]
            n = len(SAMPLES)
            calls += [through(kind, 0, 2 * k, 2 * k + 1) for k in range(n)]
            told = ask(*calls, *[get(2 * n + k) for k in range(n)])
            self.assertEqual([part[2] for part in told[-n:]], whole, kind)

    def test_still_makes_it_forget(self):
        for kind, taps in MEMORY:
            rows = [filter_(kind, taps), row(5, SAMPLES), row(5, OTHERS)]
            go = through(kind, 0, 0, 1)
            told = ask(*rows, go, go, still(0), go, get(2), get(3), get(4))
            self.assertEqual(told[5], [0])
            self.assertEqual(told[-1], told[-3], kind)
            self.assertNotEqual(told[-2], told[-3], kind)

    def test_still_keeps_the_taps_and_the_rows(self):
        told = ask(filter_(0, [16384]), row(5, [8]), run(0, 0), still(0), get(0), get(1), run(0, 0), get(2))
        self.assertEqual(told[3:], [[0], [1, 5, 8], [1, 5, 4], [2], [1, 5, 4]])

    def test_still_is_about_one_filter_alone(self):
        calls = [filter_(0, [0, 32767]), filter_(0, [0, 32767]), row(5, [1000]), run(0, 0), run(1, 0), still(1)]
        told = ask(*calls, run(0, 0), run(1, 0), get(3), get(4))
        self.assertEqual(told[-2:], [[1, 5, 1000], [1, 5, 0]])

    def test_filters_alike_remember_on_their_own(self):
        for kind, taps in MEMORY:
            go = through(kind, 0, 0, 1)
            told = ask(
                filter_(kind, taps), filter_(kind, taps), row(5, SAMPLES), row(5, OTHERS), go,
                through(kind, 1, 0, 1), get(2), get(3),
            )
            self.assertEqual(told[-1], told[-2])

    def test_no_such_filter_to_still(self):
        for f in (-1, 1, 64, -2147483648, 2147483647):
            self.assertEqual(last(filter_(0, [1]), still(f)), [-2])
        self.assertEqual(last(still(0)), [-2])

    def test_still_works_where_all_is_full(self):
        told = ask(*rows_made(256), filter_(0, [1]), still(0))
        self.assertEqual(told[-1], [0])

    def test_refused_runs_are_not_remembered(self):
        for kind, taps in MEMORY[:4]:
            start = [filter_(kind, taps), row(5, SAMPLES), run(0, 0)]
            plain = ask(*start, run(0, 0), get(2))
            told = ask(*start, run(0, 7), run(1, 0), blend(0, 0, 0), run(0, 0), get(2))
            self.assertEqual(told[3:6], [[-2], [-2], [-3]])
            self.assertEqual(told[-1], plain[-1])

    def test_refused_blends_are_not_remembered(self):
        start = [filter_(4, [3000]), row(5, SAMPLES), row(5, OTHERS), row(5, [9]), blend(0, 0, 1)]
        plain = ask(*start, blend(0, 0, 1), get(4))
        told = ask(*start, blend(0, 0, 2), run(0, 0), blend(0, 0, 9), blend(0, 0, 1), get(4))
        self.assertEqual(told[5:8], [[-3], [-3], [-2]])
        self.assertEqual(told[-1], plain[-1])


if __name__ == "__main__":
    unittest.main()
