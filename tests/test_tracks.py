"""Points 1 and 2: new and track, and how doubles are taken."""

import math
import unittest

from feelbench.desk import answers
from tests.helper import (
    STILL_TURN, ask, bits, filter_, flat, get, last, new, places_track, row, run, sense, sensed, split, still,
    track, track_bits, turns_track,
)

TWO_POSES = [(0.0, 0.0, 0.0) + STILL_TURN] * 2
GOOD = track(10, TWO_POSES)


def track_with(slot, double_bits, pose=1):
    """A track of two poses, one number of one pose by its bits."""
    doubles = [bits(x) for one in TWO_POSES for x in one]
    doubles[7 * pose + slot] = double_bits
    return track_bits(10, 2, doubles)


def place_taken(x):
    """What is taken of x as a place, seen by a distance from a mark 1000 units below 0."""
    return sensed(track_with(0, bits(x)), sense(0, 2, places=(0, 0, 0, -1000, 0, 0)))[0][1] - 1000


def turn_taken(x):
    """What is taken of x in a turn: turning from 1 0 0 0 tells the second turn's own numbers."""
    return sensed(track_with(5, bits(x)), sense(0, 1))[1][0]


def first_number_taken(w):
    """What is taken of a turn's first number: turning from w 0 0 0 to 0 1 0 0 tells it."""
    return sensed(turns_track(10, [(w, 0, 0, 0), (0, 1, 0, 0)]), sense(0, 1))[0][0]


class NewTest(unittest.TestCase):
    def test_new_answers_0(self):
        self.assertEqual(answers([1]), [1, 0])

    def test_new_takes_all_away(self):
        told = ask(
            GOOD, row(5, [1]), filter_(0, [1]), new(), sense(0, 2), get(0), still(0),
            GOOD, row(5, [1]), filter_(0, [1]),
        )
        self.assertEqual(told, [[0], [0], [0], [0], [-2], [-2], [-2], [0], [0], [0]])

    def test_new_makes_room_again(self):
        told = ask(*[GOOD] * 8, GOOD, new(), GOOD)
        self.assertEqual(told[8:], [[-1], [0], [0]])

    def test_new_forgets_what_filters_remember(self):
        calls = [filter_(0, [0, 32767]), row(5, [1000]), run(0, 0)]
        told = ask(*calls, get(1), new(), *calls, get(1))
        self.assertEqual(told[-1], [1, 5, 0])


class TrackTest(unittest.TestCase):
    def test_numbers_go_up_to_8_tracks(self):
        self.assertEqual(ask(*[GOOD] * 10), [[k] for k in range(8)] + [[-1], [-1]])

    def test_rate(self):
        for rate, answer in ((1, 0), (65536, 0), (0, -8), (65537, -8), (-1, -8), (-2147483648, -8), (2147483647, -8)):
            with self.subTest(rate=rate):
                self.assertEqual(last(track(rate, TWO_POSES)), [answer])

    def test_how_many_poses(self):
        for n in (1, 0, -1, 4097, -2147483648, 2147483647):
            with self.subTest(n=n):
                self.assertEqual(ask(track_bits(10, n, []), GOOD), [[-8], [0]])

    def test_as_many_poses_as_the_list_has_room_for(self):
        calls = flat([new(), track(10, TWO_POSES[:1] * 2285)])
        self.assertEqual(len(calls), 16000)
        self.assertEqual(split(answers(calls)), [[0], [0]])

    def test_as_many_poses_as_the_words_name(self):
        # More than a list of calls may have.
        for n, answer in ((4096, 0), (4097, -8)):
            self.assertEqual(last(track(10, TWO_POSES[:1] * n)), [answer])

    def test_all_poses_are_kept_in_order(self):
        places = [(k, 0, 0) for k in range(2000)]
        self.assertEqual(sensed(places_track(9, places), sense(0, 2)), [list(range(2000))])

    def test_rate_goes_on_to_the_rows(self):
        for rate in (1, 77, 65536):
            for kind in range(4):
                told = ask(track(rate, TWO_POSES), sense(0, kind), get(0))
                self.assertEqual(told[2][1], rate)

    def test_out_of_range_comes_before_full(self):
        told = ask(*[GOOD] * 8, track(0, TWO_POSES), track_bits(1, 1, []), track_with(0, bits(math.nan)), GOOD)
        self.assertEqual(told[8:], [[-8], [-8], [-8], [-1]])

    def test_a_refused_track_takes_no_number(self):
        told = ask(GOOD, track(0, TWO_POSES), track_with(6, bits(3.0)), GOOD)
        self.assertEqual(told, [[0], [-8], [-8], [1]])

    def test_a_refused_ninth_leaves_the_eight(self):
        tracks = [places_track(10, [(k, 0, 0), (k, 0, 0)]) for k in range(9)]
        told = ask(*tracks, *[sense(t, 2) for t in range(9)], *[get(a) for a in range(8)])
        self.assertEqual(told[8], [-1])
        self.assertEqual(told[9:18], [[k] for k in range(8)] + [[-2]])
        self.assertEqual(told[18:], [[2, 10, k, k] for k in range(8)])


class DoublesTest(unittest.TestCase):
    def test_places_in_20_places_half_to_even(self):
        for units, number in (
            (0.0, 0), (-0.0, 0), (1, 1), (-1, -1), (0.5, 0), (1.5, 2), (2.5, 2), (3.5, 4), (-0.5, 0), (-1.5, -2),
            (-2.5, -2), (-3.5, -4), (0.49, 0), (0.51, 1), (-0.49, 0), (-0.51, -1), (7.75, 8), (-7.25, -7),
            (math.nextafter(0.5, 1), 1), (math.nextafter(0.5, 0), 0), (math.nextafter(-0.5, -1), -1),
            (math.nextafter(2.5, 3), 3), (math.nextafter(2.5, 2), 2), (math.nextafter(1.5, 1), 1), (500, 500),
        ):
            with self.subTest(units=units):
                self.assertEqual(place_taken(units * 2.0 ** -20), number)

    def test_turns_in_30_places_half_to_even(self):
        for units, number in (
            (0.0, 0), (-0.0, 0), (1, 1), (-1, -1), (0.5, 0), (1.5, 2), (2.5, 2), (-0.5, 0), (-1.5, -2), (-2.5, -2),
            (math.nextafter(0.5, 1), 1), (math.nextafter(-0.5, -1), -1), (3000.5, 3000), (3001.5, 3002),
            (-3001.5, -3002), (9.75, 10),
        ):
            with self.subTest(units=units):
                self.assertEqual(turn_taken(units * 2.0 ** -30), number)
                self.assertEqual(first_number_taken(units * 2.0 ** -30), number)

    def test_very_small_doubles(self):
        for double_bits in (1, 2 ** 52 - 1, 2 ** 52, 2 ** 63, 2 ** 63 + 1, 2 ** 63 + 2 ** 52):
            with self.subTest(bits=double_bits):
                rows = sensed(track_with(0, double_bits), sense(0, 2, places=(0, 0, 0, -1000, 0, 0)))
                self.assertEqual(rows, [[1000, 1000]])
                self.assertEqual(sensed(track_with(4, double_bits), sense(0, 1)), [[0], [0], [0]])

    def test_all_sizes_of_doubles(self):
        for exponent in range(-1074, 1024):
            for sign in (1.0, -1.0):
                word = bits(math.ldexp(sign, exponent))
                self.assertEqual(last(track_with(1, word)), [0 if exponent <= 20 else -8], exponent)
                self.assertEqual(last(track_with(3, word)), [0 if exponent <= 1 else -8], exponent)

    def test_what_is_no_number(self):
        for double_bits in (
            bits(math.inf), bits(-math.inf), bits(math.nan), 2 ** 64 - 1, bits(math.inf) + 1, bits(-math.inf) + 1,
            2 ** 63 - 1,
        ):
            for slot in range(7):
                for pose in (0, 1):
                    with self.subTest(bits=double_bits, slot=slot, pose=pose):
                        self.assertEqual(ask(track_with(slot, double_bits, pose), GOOD), [[-8], [0]])

    def check_edge(self, slots, edge, half):
        """edge may just be taken, and so may all up to half a unit more, which goes to the even one."""
        beyond = edge + half
        within = (edge, math.nextafter(edge, 0), math.nextafter(edge, math.inf), beyond)
        outside = (math.nextafter(beyond, math.inf), edge + 2 * half, 2 * edge, 1e300, 1.7976931348623157e308)
        for slot in slots:
            for sign in (1, -1):
                for pose in (0, 1):
                    for x in within:
                        self.assertEqual(last(track_with(slot, bits(sign * x), pose)), [0], (slot, sign * x))
                    for x in outside:
                        self.assertEqual(last(track_with(slot, bits(sign * x), pose)), [-8], (slot, sign * x))

    def test_edges_of_places(self):
        self.check_edge((0, 1, 2), 2.0 ** 20, 2.0 ** -21)

    def test_edges_of_turns(self):
        self.check_edge((3, 4, 5, 6), 2.0, 2.0 ** -31)

    def test_a_place_at_its_end_is_taken_whole(self):
        for sign in (1, -1):
            mark = sign * (2 ** 40 - 7)
            rows = sensed(track_with(2, bits(sign * 2.0 ** 20)), sense(0, 2, places=(0, 0, 0, 0, 0, mark)))
            self.assertEqual(rows[0][1], 7)

    def test_a_turn_at_its_end_is_taken_whole(self):
        rows = sensed(turns_track(10, [(1, 0, 0, 0), (0, 2, -2, 0)]), sense(0, 1, shift=17))
        self.assertEqual(rows, [[16384], [-16384], [0]])


if __name__ == "__main__":
    unittest.main()
