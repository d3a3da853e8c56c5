"""Promise 5, of relay and round."""

import unittest
from fractions import Fraction
from itertools import product

from tests.line import (
    GREATEST, GREATEST_IN_ROW, GREATEST_UNSIGNED, LEAST, ask_behind, comes_along, echo, go_round, relay, send, tell,
    told,
)

# Resting at the places 0, 3 and 10.
RESTING = ((0, 0, 1, 1), (0, 3, 1, 1), (0, 10, 1, 1))
STATIONS = ((0, 0, 1, 1), (0, 0, 2, 1), (-99, 99, 9, 1), (99, 99, 1, 9), (7, -12, 6, 4), (-20, 3, 5, 7))
CLOCKS = ((0, 1), (-1, 1), (999, 1), (-999, 1), (999, 99), (-250, 6))
PAIRS = tuple((i, j) for i in range(6) for j in range(6) if i != j)
BOTH = (relay, go_round)


class RelayTest(unittest.TestCase):
    def test_two_three_and_six(self):
        found = ask_behind(
            RESTING, relay((0, 1), 1, 1), relay((0, 2, 1), 1, 1), relay((0, 1, 2, 1, 0, 2), 1, 1))
        self.assertEqual(found, [told(4), told(18), told(1 + 3 + 7 + 7 + 3 + 10)])

    def test_two_are_like_send(self):
        for i, j in PAIRS:
            for n, d in CLOCKS:
                one, other = ask_behind(STATIONS, relay((i, j), n, d), send(i, j, n, d))
                self.assertEqual(one, other, (i, j, n, d))

    def test_there_and_back_is_like_echo(self):
        for i, j in PAIRS:
            one, other = ask_behind(STATIONS, relay((i, j, i), 7, 3), echo(i, j, 7, 3))
            self.assertEqual(one[1:], other[1:3], (i, j))

    def test_the_same_station_one_straight_behind_the_other(self):
        for n, d in CLOCKS:
            found = ask_behind(
                STATIONS, relay((4, 2), n, d), relay((4, 4, 2), n, d), relay((4, 2, 2), n, d),
                relay((4, 4, 4, 2, 2, 2), n, d))
            self.assertEqual(found, [found[0]] * 4)

    def test_one_station_alone_told_several_times(self):
        for count in range(2, 7):
            found = ask_behind(STATIONS, relay((5,) * count, -6, 4), relay((0,) * count, 999, 1))
            self.assertEqual(found, [told(Fraction(-3, 2)), told(999)], count)
        self.assertEqual(ask_behind(STATIONS[5:], relay((0, 0), 4, 6)), [told(Fraction(2, 3))])

    def test_rows_that_come_back_to_the_first(self):
        found = ask_behind(RESTING, relay((0, 1, 0), 0, 1), relay((1, 2, 0, 1), -2, 1), relay((0, 2, 0, 2, 0), 0, 1))
        self.assertEqual(found, [told(6), told(18), told(40)])

    def test_against_the_way_of_light(self):
        for row in product(range(6), repeat=3):
            row = row + (5, row[0], 3)
            ways = [STATIONS[i] for i in row]
            found = ask_behind(STATIONS, *[relay(row, n, d) for n, d in CLOCKS])
            self.assertEqual(found, [told(comes_along(ways, Fraction(n, d))) for n, d in CLOCKS], row)

    def test_the_order_of_the_row_counts(self):
        found = ask_behind(RESTING, relay((0, 1, 2), 0, 1), relay((0, 2, 1), 0, 1), relay((1, 0, 2), 0, 1))
        self.assertEqual(found, [told(10), told(17), told(13)])


class RoundTest(unittest.TestCase):
    def test_two_three_and_six(self):
        found = ask_behind(
            RESTING, go_round((0, 1), 1, 1), go_round((0, 2, 1), 1, 1), go_round((0, 1, 2, 1, 0, 2), 1, 1))
        self.assertEqual(found, [told(7), told(21), told(1 + 3 + 7 + 7 + 3 + 10 + 10)])

    def test_two_are_like_the_first_of_echo(self):
        for i, j in PAIRS:
            for n, d in CLOCKS:
                one, other = ask_behind(STATIONS, go_round((i, j), n, d), echo(i, j, n, d))
                self.assertEqual(one[1:], other[1:3], (i, j, n, d))

    def test_like_relay_with_the_first_told_once_more(self):
        for row in ((0, 1), (2, 3, 4), (5, 4, 3, 2), (1, 1, 0, 3, 3)):
            one, other = ask_behind(STATIONS, go_round(row, 17, 9), relay(row + row[:1], 17, 9))
            self.assertEqual(one, other, row)

    def test_rows_that_come_back_to_the_first_already(self):
        for row in ((4, 2), (4, 2, 3), (4, 0, 1, 5)):
            one, other = ask_behind(STATIONS, go_round(row, 5, 8), go_round(row + (4,), 5, 8))
            self.assertEqual(one, other, row)

    def test_one_station_alone_told_several_times(self):
        for count in range(2, 7):
            found = ask_behind(STATIONS, go_round((5,) * count, -6, 4), go_round((0,) * count, -999, 1))
            self.assertEqual(found, [told(Fraction(-3, 2)), told(-999)], count)

    def test_against_the_way_of_light(self):
        for row in product(range(6), repeat=3):
            row = row + (5, row[0], 3)
            ways = [STATIONS[i] for i in row + row[:1]]
            found = ask_behind(STATIONS, *[go_round(row, n, d) for n, d in CLOCKS])
            self.assertEqual(found, [told(comes_along(ways, Fraction(n, d))) for n, d in CLOCKS], row)


class RowRefusalTest(unittest.TestCase):
    def test_how_many_the_row_may_have(self):
        for call in BOTH:
            for count in range(13):
                row = [k % 3 for k in range(count)]
                found = ask_behind(RESTING, call(row, 1, 1), tell(2))
                self.assertEqual(found[0][0], 0 if 2 <= count <= 6 else -22, (call, count))
                self.assertEqual(found[1], [0, *RESTING[2]])

    def test_one_of_the_row_is_no_station(self):
        for call in BOTH:
            for count in (1, 2, 6, 7, 12):
                for place in range(count):
                    for other in (3, 6, GREATEST_IN_ROW):
                        row = [0] * count
                        row[place] = other
                        calls = [call(row, n, d) for n, d in ((0, 1), (1000, 1), (0, 0), (LEAST, 100))]
                        found = ask_behind(RESTING, *calls, tell(0))
                        self.assertEqual(found, [[-2]] * 4 + [[0, *RESTING[0]]], (call, row))

    def test_an_empty_row_names_no_station_that_is_not_there(self):
        for call in BOTH:
            found = ask_behind((), call((), 0, 1), call((), 1000, 0), call((0,), 0, 1), call((0, 1), 0, 1))
            self.assertEqual(found, [[-22], [-22], [-2], [-2]], call)

    def test_a_clocks_number_at_the_edges(self):
        for call in BOTH:
            for n, d in ((-999, 1), (999, 1), (-999, 99), (999, 99), (0, 1), (0, 99)):
                self.assertEqual(ask_behind(RESTING, call((0, 1), n, d))[0][0], 0, (call, n, d))
            for n in (-1000, 1000, LEAST, GREATEST):
                self.assertEqual(ask_behind(RESTING, call((0, 1, 2), n, 1)), [[-22]], (call, n))
            for d in (0, 100, GREATEST_UNSIGNED):
                self.assertEqual(ask_behind(RESTING, call((0, 1, 2), 1, d)), [[-22]], (call, d))

    def test_a_row_too_short_and_a_clocks_number_out_of_range(self):
        for call in BOTH:
            found = ask_behind(RESTING, call((0,), 1000, 1), call((0,) * 7, 0, 0), call((0, 0), 0, 0))
            self.assertEqual(found, [[-22]] * 3, call)

    def test_looking_and_refusals_change_nothing(self):
        looks = [call(row, n, 1) for call in BOTH for row in ((), (0, 1), (0, 9), (0,) * 12) for n in (0, 1000)]
        found = ask_behind(RESTING, *looks, tell(0), tell(1), tell(2))
        self.assertEqual(found[-3:], [[0, *one] for one in RESTING])


if __name__ == "__main__":
    unittest.main()
