"""Points 4 and 5: row and get."""

import unittest

from feelbench.desk import answers
from tests.helper import ask, flat, get, last, new, row, rows_made, split


class RowTest(unittest.TestCase):
    def test_numbers_go_up(self):
        self.assertEqual(ask(row(1, []), row(2, [5]), row(3, [6, 7])), [[0], [1], [2]])

    def test_samples_and_rate_are_kept(self):
        told = ask(row(1, [-32768, 32767, 0]), row(65536, []), get(0), get(1))
        self.assertEqual(told[2:], [[3, 1, -32768, 32767, 0], [0, 65536]])

    def test_rate(self):
        for rate, answer in ((1, 0), (65536, 0), (0, -8), (65537, -8), (-1, -8), (-2147483648, -8), (2147483647, -8)):
            with self.subTest(rate=rate):
                self.assertEqual(last(row(rate, [1, 2])), [answer])

    def test_the_longest_row_that_may_be_handed_in(self):
        samples = [k - 8000 for k in range(15900)]
        told = split(answers(flat([new(), row(9, samples), get(0, 15898, 4), get(0, 0, 4096), get(0, 4096, 4096)])))
        self.assertEqual(told[1:3], [[0], [15900, 9, 7898, 7899]])
        self.assertEqual(told[3], [15900, 9] + samples[:4096])
        self.assertEqual(told[4], [15900, 9] + samples[4096:8192])

    def test_how_many_samples(self):
        # More than a list of calls may have, but the words name this end.
        told = ask(row(9, [3] * 65536), get(0, 65534, 4), row(9, [3] * 65537), get(1))
        self.assertEqual(told, [[0], [65536, 9, 3, 3], [-8], [-2]])

    def test_samples_out_of_range(self):
        self.assertEqual(ask(row(9, [1, 32768]), row(9, [-32769, 1]), row(9, [1])), [[-8], [-8], [0]])

    def test_up_to_256(self):
        told = ask(*rows_made(255), row(1, [4]), row(1, [5]), get(255), get(256))
        self.assertEqual(told[-4:], [[255], [-1], [1, 1, 4], [-2]])

    def test_out_of_range_comes_before_full(self):
        told = ask(*rows_made(256), row(0, [4]), row(65537, []), row(1, []))
        self.assertEqual(told[-3:], [[-8], [-8], [-1]])

    def test_a_refused_row_takes_no_number(self):
        told = ask(row(1, [1]), row(0, [2]), row(65537, [3]), row(2, [4]), get(1), get(0))
        self.assertEqual(told, [[0], [-8], [-8], [1], [1, 2, 4], [1, 1, 1]])


class GetTest(unittest.TestCase):
    ROW = row(50, [10, 11, 12, 13, 14])

    def check(self, call, answer):
        with self.subTest(call=call):
            self.assertEqual(last(self.ROW, call), answer)

    def test_a_part(self):
        self.check(get(0, 0, 5), [5, 50, 10, 11, 12, 13, 14])
        self.check(get(0, 1, 3), [5, 50, 11, 12, 13])
        self.check(get(0, 4, 1), [5, 50, 14])
        self.check(get(0, 0, 0), [5, 50])

    def test_as_many_as_there_are(self):
        self.check(get(0, 0, 4096), [5, 50, 10, 11, 12, 13, 14])
        self.check(get(0, 3, 9), [5, 50, 13, 14])
        self.check(get(0, 5, 1), [5, 50])
        self.check(get(0, 6, 4096), [5, 50])
        self.check(get(0, 2147483647, 4096), [5, 50])

    def test_out_of_range(self):
        for call in (
            get(0, -1, 1), get(0, 0, -1), get(0, 0, 4097), get(0, -2147483648, 0), get(0, 0, -2147483648),
            get(0, 0, 2147483647), get(0, -1, -1), get(0, -5, 2),
        ):
            self.check(call, [-8])

    def test_no_such_row(self):
        for a in (-1, 1, 256, -2147483648, 2147483647):
            self.check(get(a, 0, 1), [-2])
        self.assertEqual(last(get(0, 0, 0)), [-2])

    def test_out_of_range_comes_before_no_such_row(self):
        for call in (get(1, -1, 1), get(-1, 0, -1), get(1, 0, 4097)):
            self.check(call, [-8])

    def test_get_works_where_there_are_256_rows(self):
        told = ask(*rows_made(256), get(255))
        self.assertEqual(told[-1], [0, 7])

    def test_get_changes_nothing(self):
        told = ask(self.ROW, get(0, 1, 2), get(0, 9, 9), get(0), row(1, []))
        self.assertEqual(told[3:], [[5, 50, 10, 11, 12, 13, 14], [1]])


if __name__ == "__main__":
    unittest.main()
