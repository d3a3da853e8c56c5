"""Promise 3, of is and at; and what a fraction is."""

import unittest
from fractions import Fraction
from math import gcd

from tests.line import GREATEST, GREATEST_UNSIGNED, LEAST, ask_behind, at, move, put, tell, told, where

SPOTS = ((0, 0), (-99, 99), (99, 99), (7, -12))
CLOCKS = (
    (0, 1), (0, 99), (1, 1), (-1, 1), (3, 6), (-3, 6), (999, 1), (-999, 1), (999, 99), (-999, 99), (17, 98), (-8, 7))


class IsTest(unittest.TestCase):
    def test_one_station(self):
        self.assertEqual(ask_behind(((-3, 4, 5, 7),), tell(0)), [[0, -3, 4, 5, 7]])

    def test_every_factor_is_told_with_nothing_in_common(self):
        for p in range(1, 10):
            for q in range(1, 10):
                with self.subTest(p=p, q=q):
                    shared = gcd(p, q)
                    self.assertEqual(ask_behind(((1, -1, p, q),), tell(0)), [[0, 1, -1, p // shared, q // shared]])

    def test_the_last_station_and_the_one_behind_it(self):
        found = ask_behind(((0, 0, 1, 1), (1, 1, 2, 1)), tell(1), tell(2), tell(GREATEST_UNSIGNED))
        self.assertEqual(found, [[0, 1, 1, 2, 1], [-2], [-2]])


class AtTest(unittest.TestCase):
    def test_resting(self):
        found = ask_behind(((3, -4, 1, 1),), at(0, 0, 1), at(0, 5, 2), at(0, -5, 1))
        self.assertEqual(found, [[0, 3, 1, -4, 1], [0, 11, 2, -4, 1], [0, -2, 1, -4, 1]])

    def test_moving_right_and_left(self):
        found = ask_behind(((0, 0, 2, 1), (0, 0, 1, 2)), at(0, 4, 1), at(1, 4, 1), at(0, -4, 1), at(0, 1, 1))
        self.assertEqual(found, [[0, 5, 1, 3, 1], [0, 5, 1, -3, 1], [0, -5, 1, -3, 1], [0, 5, 4, 3, 4]])

    def test_a_fraction_of_0_is_0_1(self):
        self.assertEqual(ask_behind(((0, 0, 3, 1),), at(0, 0, 1), at(0, 0, 99)), [[0, 0, 1, 0, 1]] * 2)

    def test_a_clocks_number_with_something_in_common(self):
        self.assertEqual(ask_behind(((0, 0, 2, 1),), at(0, 8, 2), at(0, 396, 99)), [[0, 5, 1, 3, 1]] * 2)

    def test_against_time_and_speed(self):
        for spot in SPOTS:
            for p in range(1, 10):
                for q in range(1, 10):
                    one = (*spot, p, q)
                    found = ask_behind((one,), *[at(0, n, d) for n, d in CLOCKS])
                    self.assertEqual(found, [told(*where(one, Fraction(n, d))) for n, d in CLOCKS], one)

    def test_each_fraction_has_nothing_in_common(self):
        for p in range(1, 10):
            for found in ask_behind(((-7, 5, p, 6),), *[at(0, n, d) for n, d in CLOCKS]):
                for upper, lower in (found[1:3], found[3:5]):
                    self.assertGreaterEqual(lower, 1)
                    self.assertEqual(gcd(upper, lower), 1)

    def test_edges_that_are_out(self):
        for n in (-1000, 1000, LEAST, GREATEST):
            self.assertEqual(ask_behind(((0, 0, 1, 1),), at(0, n, 1)), [[-22]], n)
        for d in (0, 100, GREATEST_UNSIGNED):
            self.assertEqual(ask_behind(((0, 0, 1, 1),), at(0, 1, d), at(0, 0, d)), [[-22]] * 2, d)

    def test_edges_that_are_in(self):
        found = ask_behind(((0, 0, 1, 1),), at(0, -999, 1), at(0, 999, 1), at(0, -998, 99), at(0, 998, 99))
        self.assertEqual(found, [[0, -999, 1, 0, 1], [0, 999, 1, 0, 1], [0, -998, 99, 0, 1], [0, 998, 99, 0, 1]])

    def test_no_such_station_goes_ahead_of_out_of_range(self):
        found = ask_behind(((0, 0, 1, 1),), at(1, 0, 1), at(1, 1000, 0), at(GREATEST_UNSIGNED, 0, 0), at(0, 1000, 0))
        self.assertEqual(found, [[-2], [-2], [-2], [-22]])

    def test_behind_move_and_set(self):
        found = ask_behind(((0, 0, 1, 1),), move(0, 4, 2), at(0, 4, 1), put(0, 1, 10), at(0, 4, 1))
        self.assertEqual(found, [[0], [0, 5, 1, 3, 1], [0], [0, 6, 1, 13, 1]])

    def test_looking_changes_nothing(self):
        found = ask_behind(((1, 2, 3, 4),), at(0, 5, 7), at(0, 0, 0), tell(0), tell(0))
        self.assertEqual(found[2:], [[0, 1, 2, 3, 4]] * 2)


if __name__ == "__main__":
    unittest.main()
