"""Point 3: sense, by each kind of sensor."""

import math
import unittest

from tests.helper import (
    IDLE_PLACES, STILL_TURN, UNIT, ask, get, last, places_track, row, rows_made, sense, sensed, track, turns_track,
)

# xorshift with 13, 7, 17 from 1 on, as it is known elsewhere.
SEEDS_FROM_1 = (1082269761, 1152992998833853505, 11177516664432764457, 17678023832001937445)
BOTH = (1, 0, 0, 1)


def noise_of(seed, noise):
    return (seed >> 33) % (2 * noise + 1) - noise


class PushTest(unittest.TestCase):
    def test_second_difference_less_mark(self):
        places = [(k * k, -3 * k * k, 5 * k) for k in range(5)]
        rows = sensed(places_track(8, places), sense(0, 0, places=(0, 0, 0, 7, 1, -2)))
        self.assertEqual(rows, [[-5] * 3, [-7] * 3, [2] * 3])

    def test_each_pose_with_both_beside_it(self):
        rows = sensed(places_track(8, [(0, 0, 0), (10, 0, 0), (0, 100, 0), (0, 0, 1000), (1, 1, 1)]), sense(0, 0))
        self.assertEqual(rows, [[-20, 10, 1], [100, -200, 101], [0, 1000, -1999]])

    def test_three_poses_give_one_sample_and_two_none(self):
        self.assertEqual(sensed(places_track(8, [(0, 0, 0), (1, 2, 3), (0, 0, 0)]), sense(0, 0)), [[-2], [-4], [-6]])
        told = ask(places_track(8, [(0, 0, 0), (1, 2, 3)]), sense(0, 0), get(0), get(1), get(2), get(3))
        self.assertEqual(told[1:], [[0], [0, 8], [0, 8], [0, 8], [-2]])

    def test_turned_back_by_the_middle_turn(self):
        # 1 0 0 1 is no turn of length 1, so it stretches too: 5 7 9 turned back by it is 9 -17 9.
        poses = [(5 * UNIT, 7 * UNIT, 9 * UNIT) + (0, 1, 0, 0), (0, 0, 0) + BOTH, (0, 0, 0) + (0, 0, 1, 0)]
        self.assertEqual(sensed(track(8, poses), sense(0, 0)), [[9], [-17], [9]])

    def test_mark_is_turned_back_too(self):
        poses = [(0, 0, 0) + STILL_TURN, (0, 0, 0) + BOTH, (0, 0, 0) + STILL_TURN]
        self.assertEqual(sensed(track(8, poses), sense(0, 0, places=(0, 0, 0, -5, -7, -9))), [[9], [-17], [9]])

    def test_the_seat_is_turned_at_each_pose(self):
        # Half a turn about z in the middle: the seat 3 4 5 goes to -3 -4 5 there.
        poses = [(0, 0, 0) + STILL_TURN, (0, 0, 0) + (0, 0, 0, 1), (0, 0, 0) + STILL_TURN]
        rows = sensed(track(8, poses), sense(0, 0, places=(3, 4, 5, 0, 0, 0)))
        self.assertEqual(rows, [[-12], [-16], [0]])


class TurningTest(unittest.TestCase):
    def turning(self, one, two, shift=0):
        return [part[0] for part in sensed(turns_track(8, [one, two]), sense(0, 1, shift=shift))]

    def test_from_no_turn_it_tells_the_second(self):
        tiny = 2.0 ** -30
        self.assertEqual(self.turning((1, 0, 0, 0), (1, 11 * tiny, -12 * tiny, 13 * tiny)), [11, -12, 13])

    def test_to_no_turn_it_tells_the_opposite(self):
        tiny = 2.0 ** -30
        self.assertEqual(self.turning((1, 11 * tiny, -12 * tiny, 13 * tiny), (1, 0, 0, 0)), [-11, 12, -13])

    def test_cross(self):
        # u cross U is z for x and y, and it's taken off.
        self.assertEqual(self.turning((0, 1, 0, 0), (0, 0, 1, 0), 20), [0, 0, -1024])
        self.assertEqual(self.turning((0, 0, 0, 1), (0, 1, 0, 0), 20), [0, -1024, 0])
        self.assertEqual(self.turning((0, 0, 1, 0), (0, 0, 0, 1), 20), [-1024, 0, 0])

    def test_below_0_its_opposite(self):
        self.assertEqual(self.turning((1, 0, 0, 0), (0.25, 0.5, -0.5, 0), 20), [512, -512, 0])
        self.assertEqual(self.turning((1, 0, 0, 0), (-0.25, 0.5, -0.5, 0), 20), [-512, 512, 0])
        self.assertEqual(self.turning((0, 0, 0, 1), (0.5, 0, 0, -1), 20), [0, 0, 512])
        self.assertEqual(self.turning((0, 0, 0, 1), (0.5, 0, 0, 1), 20), [0, 0, -512])

    def test_just_below_and_above_0(self):
        tiny = 2.0 ** -30
        self.assertEqual(self.turning((tiny, 0, 0, 0), (tiny, 2, 0, 0)), [2, 0, 0])
        self.assertEqual(self.turning((tiny, 0, 0, 0), (-tiny, 2, 0, 0)), [-2, 0, 0])
        # In units: w U - W u is -3 0 2^31, u cross U is 0 -2^31 0, and a is 1 - 2.
        self.assertEqual(self.turning((tiny, tiny, 0, 0), (tiny, -2 * tiny, 0, 2)), [0, -2, -2])

    def test_at_0_it_stays(self):
        self.assertEqual(self.turning((1, 0, 0, 0), (0, 0.5, -0.5, 1), 20), [512, -512, 1024])
        self.assertEqual(self.turning((0, 1, 0, 0), (1, 0, 0, 0), 20), [-1024, 0, 0])

    def test_the_opposite_is_taken_before_the_rounding(self):
        tiny = 2.0 ** -30
        self.assertEqual(self.turning((tiny, 0, 0, 0), (1, 0.5, -0.5, 1.5)), [1, 0, 2])
        self.assertEqual(self.turning((tiny, 0, 0, 0), (-1, 0.5, -0.5, 1.5)), [0, 1, -1])

    def test_one_sample_less_than_poses(self):
        turns = [(1, 0, 0, 0), (1, 0, 0, 0.5), (1, 0, 0, 0.25), (1, 0, 0, 0)]
        rows = sensed(turns_track(8, turns), sense(0, 1, shift=20))
        self.assertEqual(rows, [[0] * 3, [0] * 3, [512, -256, -256]])

    def test_places_seat_and_mark_do_not_matter(self):
        poses = [(k, 2 * k, -k, 1, 0.25 * k, 0, 0) for k in range(3)]
        idle = [(0, 0, 0, 1, 0.25 * k, 0, 0) for k in range(3)]
        self.assertEqual(
            sensed(track(8, poses), sense(0, 1, shift=20, places=(1, 2, 3, 4, 5, 6))),
            sensed(track(8, idle), sense(0, 1, shift=20)),
        )


class DistanceTest(unittest.TestCase):
    def test_root_is_cut(self):
        places = [
            (0, 0, 0), (1, 0, 0), (1, 1, 0), (1, 1, 1), (2, 0, 0), (3, 4, 12), (-3, -4, -12), (9, 3, 3), (10, 0, 0),
            (10, 1, 0), (100, -100, 100), (181, 0, 3),
        ]
        rows = sensed(places_track(8, places), sense(0, 2))
        self.assertEqual(rows, [[0, 1, 1, 1, 2, 13, 13, 9, 10, 10, 173, 181]])

    def test_from_the_mark(self):
        rows = sensed(places_track(8, [(0, 0, 0), (10, 20, 30)]), sense(0, 2, places=(0, 0, 0, 7, 16, 18)))
        self.assertEqual(rows, [[math.isqrt(49 + 256 + 324), 13]])

    def test_the_seat_is_turned(self):
        # 1 0 0 1 takes 5 7 9 to -19 3 9.
        poses = [(0, 0, 0) + BOTH, (0, 0, 0) + STILL_TURN]
        rows = sensed(track(8, poses), sense(0, 2, places=(5, 7, 9, -19, 3, 9)))
        self.assertEqual(rows, [[0, math.isqrt(24 * 24 + 16)]])

    def test_half_goes_up_where_a_way_is_turned(self):
        # A half of 1 0 0 1 takes 1 0 0 to 1 - a half, a half: both go up.
        poses = [(0, 0, 0, 0.5, 0, 0, 0.5)] * 2
        rows = sensed(track(8, poses), sense(0, 2, places=(1, 0, 0, 1, 1, 0)))
        self.assertEqual(rows, [[0, 0]])

    def test_roots_of_great_numbers(self):
        end = 2 ** 40
        poses = [(2.0 ** 20,) * 3 + STILL_TURN, (-(2.0 ** 20),) * 3 + STILL_TURN]
        rows = sensed(track(8, poses), sense(0, 2, shift=30, places=(0, 0, 0, end, end, end)))
        self.assertEqual(rows, [[0, (math.isqrt(3 * (2 * end) ** 2) + 2 ** 29) >> 30]])

    def test_roots_just_below_a_square(self):
        for root in (1001, 12345, 31999):
            # An odd root: its square, and one less, are sums of three squares.
            for rest in (0, 1):
                a, b, c = squares_for(root * root - rest)
                rows = sensed(places_track(8, [(a, b, c), (-a, c, b)]), sense(0, 2))
                self.assertEqual(rows, [[root - rest] * 2])

    def test_the_only_kind_with_one_row(self):
        told = ask(places_track(8, [(0, 0, 0), (1, 2, 2)]), sense(0, 2), sense(0, 2), get(1), get(2))
        self.assertEqual(told[1:], [[0], [1], [2, 8, 0, 3], [-2]])


def squares_for(x):
    for a in range(math.isqrt(x), 0, -1):
        left = x - a * a
        for b in range(math.isqrt(left), -1, -1):
            c = math.isqrt(left - b * b)
            if c * c == left - b * b:
                return a, b, c
    raise AssertionError(x)


class BearingTest(unittest.TestCase):
    def test_the_mark_turned_back_at_all_poses(self):
        turns = [(1, 0, 0, 0), BOTH, (0, 0, 0, 1), (0, 1, 0, 0), (0.5, 0, 0, 0.5)]
        rows = sensed(turns_track(8, turns), sense(0, 3, places=(0, 0, 0, 5, 7, 9)))
        # The last by hand: c = (3.5, -2.5, 0), t = (7, -5, 0), d = (-2.5, -3.5, 0), so (1, -6, 0) is added.
        self.assertEqual(rows, [[5, 9, -5, 5, 6], [7, -17, -7, -7, 1], [9, 9, 9, -9, 9]])

    def test_places_and_seat_do_not_matter(self):
        rows = sensed(places_track(8, [(100, 200, 300)] * 2), sense(0, 3, places=(5, 6, 7, 1, 2, 3)))
        self.assertEqual(rows, [[1, 1], [2, 2], [3, 3]])

    def test_a_right_angle(self):
        half = math.sqrt(0.5)
        rows = sensed(turns_track(8, [(half, 0, 0, half)] * 2), sense(0, 3, places=(0, 0, 0, 10000, 0, 50)))
        self.assertEqual(rows, [[0, 0], [-10000, -10000], [50, 50]])


class SampleTest(unittest.TestCase):
    def distance(self, units, gain, shift):
        """The sample that a distance of so many units becomes."""
        places = places_track(8, [(0, 0, 0)] * 2)
        return sensed(places, sense(0, 2, gain, shift, places=(0, 0, 0, units, 0, 0)))[0][0]

    def test_gain_and_shift(self):
        self.assertEqual(self.distance(100, 3, 0), 300)
        self.assertEqual(self.distance(100, -3, 0), -300)
        self.assertEqual(self.distance(100, 0, 0), 0)
        self.assertEqual(self.distance(100, 3, 3), 38)
        self.assertEqual(self.distance(100, -3, 3), -37)
        self.assertEqual(self.distance(1, 1, 1), 1)
        self.assertEqual(self.distance(1, -1, 1), 0)
        self.assertEqual(self.distance(3, -1, 1), -1)

    def test_gain_at_its_ends(self):
        self.assertEqual(self.distance(2 ** 20, 2147483647, 40), 2048)
        self.assertEqual(self.distance(2 ** 20, -2147483648, 40), -2048)
        self.assertEqual(self.distance(1, 2147483647, 0), 32767)
        self.assertEqual(self.distance(1, -2147483648, 0), -32768)

    def test_shift_at_its_ends(self):
        self.assertEqual(self.distance(2 ** 40, 2147483647, 62), 512)
        self.assertEqual(self.distance(2 ** 40, -2147483648, 62), -512)
        self.assertEqual(self.distance(2 ** 40, -2147483648, 61), -1024)
        self.assertEqual(self.distance(2 ** 30, 2147483647, 62), 0)
        self.assertEqual(self.distance(2 ** 30, -2147483648, 62), 0)
        self.assertEqual(self.distance(2 ** 31, -2147483648, 62), -1)
        self.assertEqual(self.distance(2 ** 31, 1073741824, 62), 1)
        self.assertEqual(self.distance(2 ** 31 - 1, 1073741824, 62), 0)

    def test_held_to_16_bits(self):
        for units, sample in ((32766, 32766), (32767, 32767), (32768, 32767), (10 ** 9, 32767)):
            self.assertEqual(self.distance(units, 1, 0), sample)
        for units, sample in ((32767, -32767), (32768, -32768), (32769, -32768), (10 ** 9, -32768)):
            self.assertEqual(self.distance(units, -1, 0), sample)

    def noisy(self, kind, noise, seed, n, gain=0, places=IDLE_PLACES):
        return sensed(places_track(8, [(0, 0, 0)] * n), sense(0, kind, gain, 0, noise, seed, places))

    def test_noise_goes_on_sample_by_sample(self):
        for noise in (0, 1, 5, 1000, 16383):
            expected = [noise_of(seed, noise) for seed in SEEDS_FROM_1]
            self.assertEqual(self.noisy(2, noise, 1, 4), [expected])
        self.assertEqual(self.noisy(2, 5, 1, 4)[0][0], -5)

    def test_noise_goes_across_a_poses_numbers(self):
        expected = [noise_of(seed, 9000) for seed in SEEDS_FROM_1]
        rows = self.noisy(3, 9000, 1, 2)
        self.assertEqual([rows[0][0], rows[1][0], rows[2][0], rows[0][1]], expected)

    def test_seed_0_is_taken_as_1(self):
        for kind in range(4):
            self.assertEqual(self.noisy(kind, 16383, 0, 5), self.noisy(kind, 16383, 1, 5))
        self.assertNotEqual(self.noisy(2, 16383, 0, 5), self.noisy(2, 16383, 2, 5))

    def test_the_seed_that_comes_next_gives_what_comes_next(self):
        whole = self.noisy(2, 16383, 2 ** 64 - 1, 3)[0]
        z = 2 ** 64 - 1
        z ^= (z << 13) % 2 ** 64
        z ^= z >> 7
        z ^= (z << 17) % 2 ** 64
        self.assertEqual(self.noisy(2, 16383, z, 2)[0], whole[1:])
        self.assertEqual(whole[0], noise_of(z, 16383))

    def test_each_sense_begins_with_its_own_seed(self):
        told = ask(
            places_track(8, [(0, 0, 0)] * 4), sense(0, 2, 0, 0, 999, 5), sense(0, 2, 0, 0, 999, 5), get(0), get(1)
        )
        self.assertEqual(told[3], told[4])

    def test_noise_is_added_before_the_holding(self):
        # The first noise of seed 1 is -5: so 32770 becomes 32765, not 32762.
        far = (0, 0, 0, 32770, 0, 0)
        self.assertEqual(self.noisy(2, 5, 1, 2, 1, far)[0][0], 32765)
        self.assertEqual(self.noisy(2, 5, 1, 2, -1, far)[0][0], -32768)

    def test_noise_stays_within_its_bounds_and_meets_them(self):
        got = set(self.noisy(2, 1, 12345, 200)[0])
        self.assertEqual(got, {-1, 0, 1})


class RefusalTest(unittest.TestCase):
    TRACK = places_track(8, [(1, 2, 3), (4, 5, 6), (0, 0, 0)])

    def check(self, answer, **settings):
        values = {"t": 0, "kind": 0}
        values.update(settings)
        with self.subTest(**settings):
            self.assertEqual(last(self.TRACK, sense(**values)), [answer])

    def test_kind(self):
        for kind in range(4):
            self.check(0, kind=kind)
        for kind in (-1, 4, -2147483648, 2147483647):
            self.check(-8, kind=kind)

    def test_shift_and_noise(self):
        for shift, answer in ((0, 0), (62, 0), (63, -8), (-1, -8), (-2147483648, -8), (2147483647, -8)):
            self.check(answer, shift=shift)
        for noise, answer in ((0, 0), (16383, 0), (16384, -8), (-1, -8), (-2147483648, -8), (2147483647, -8)):
            self.check(answer, noise=noise)

    def test_gain_and_seed_at_their_ends(self):
        for gain in (-2147483648, 0, 2147483647):
            self.check(0, gain=gain)
        for seed in (0, 2 ** 64 - 1):
            self.check(0, seed=seed)

    def test_gain_and_seed_out_of_range(self):
        for gain in (-2147483649, 2147483648):
            self.check(-8, gain=gain)
        for seed in (-1, 2 ** 64):
            self.check(-8, seed=seed)

    def test_seat_and_mark(self):
        for slot in range(6):
            end = 2 ** 31 if slot < 3 else 2 ** 40
            for number, answer in (
                (end, 0), (-end, 0), (end + 1, -8), (-end - 1, -8), (2 ** 63 - 1, -8), (-2 ** 63, -8)
            ):
                places = [0] * 6
                places[slot] = number
                for kind in range(4):
                    self.check(answer, kind=kind, places=places)

    def test_no_such_track(self):
        for t in (-1, 1, 8, -2147483648, 2147483647):
            self.check(-2, t=t)
        self.assertEqual(last(sense(0, 0)), [-2])

    def test_out_of_range_comes_before_no_such_track(self):
        self.check(-8, t=1, kind=4)
        self.check(-8, t=1, shift=63)
        self.check(-8, t=-1, noise=-1)
        self.check(-8, t=1, places=(0, 0, 0, 0, 0, 2 ** 40 + 1))

    def test_up_to_256_rows(self):
        full = ask(*rows_made(253), sense(0, 0), get(255), get(256), sense(0, 2), sense(0, 0))
        self.assertEqual(full[-5:], [[253], [0, 7], [-2], [-1], [-1]])

    def test_three_rows_where_there_is_room_for_two_or_one(self):
        for count in (254, 255):
            for kind in (0, 1, 3):
                told = ask(*rows_made(count), sense(0, kind), get(count), sense(0, 2), get(count))
                self.assertEqual(told[-4:], [[-1], [-2], [count], [2, 7, 0, 0]])

    def test_refusals_before_full(self):
        told = ask(*rows_made(256), sense(1, 0), sense(0, 9), sense(1, 9), sense(0, 0))
        self.assertEqual(told[-4:], [[-2], [-8], [-8], [-1]])

    def test_a_refused_sense_makes_no_row(self):
        told = ask(self.TRACK, row(3, [1]), sense(0, 4), sense(1, 0), sense(0, 0, shift=63), get(1), sense(0, 3), get(0))
        self.assertEqual(told[2:], [[-8], [-2], [-8], [-2], [1], [1, 3, 1]])

    def test_rows_come_behind_those_there(self):
        told = ask(
            self.TRACK, row(3, [1]), sense(0, 3, places=(0, 0, 0, 7, 8, 9)), row(4, []), get(1), get(2), get(3)
        )
        self.assertEqual(told[2:], [[1], [4], [3, 8, 7, 7, 7], [3, 8, 8, 8, 8], [3, 8, 9, 9, 9]])


if __name__ == "__main__":
    unittest.main()
