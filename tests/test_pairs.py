"""Promise 4, of ownof and closing, and promise 5, of meet."""

import unittest
from fractions import Fraction

from tests.line import (
    GREATEST, GREATEST_UNSIGNED, LEAST, ask_behind, at, closing, fractions, meet, meeting, move, own, own_answer, ownof,
    speed_told, told, where,
)

MEETING = ((0, 0, 1, 1), (0, 0, 2, 1))
NEARING = ((0, 0, 1, 1), (0, 10, 1, 2))
ALIKE = ((0, 0, 2, 1), (0, 10, 2, 1))
AT_ONE_PLACE = ((0, 5, 1, 1), (-3, 5, 1, 1))
STATIONS = ((0, 0, 1, 1), (0, 0, 2, 1), (-99, 99, 9, 1), (99, 99, 1, 9), (7, -12, 6, 4), (-20, 3, 5, 7))
CLOCKS = ((0, 1), (1, 1), (-1, 1), (-1, 2), (999, 1), (-999, 1), (999, 99), (-999, 98), (30, 4), (-250, 6))
ALL_PAIRS = tuple((i, j) for i in range(6) for j in range(6))
PAIRS = tuple((i, j) for i, j in ALL_PAIRS if i != j)


class OwnofTest(unittest.TestCase):
    def test_the_three_sides(self):
        found = ask_behind(MEETING, ownof(0, 1, 0, 1), ownof(0, 1, 4, 1), ownof(0, 1, -4, 1))
        self.assertEqual(found, [told(0, 0), told(5, 3, first=1), told(-5, 3, first=2)])

    def test_from_the_one_that_moves(self):
        found = ask_behind(MEETING, ownof(1, 0, 0, 1), ownof(1, 0, 4, 1), ownof(1, 0, -4, 1))
        self.assertEqual(found, [told(0, 0), told(5, 3, first=2), told(-5, 3, first=1)])

    def test_the_same_station_twice_is_not_refused(self):
        found = ask_behind(MEETING, ownof(0, 0, 5, 1), ownof(1, 1, -6, 4), ownof(1, 1, 0, 99))
        self.assertEqual(found, [told(5, 0), told(Fraction(-3, 2), 0), told(0, 0)])

    def test_one_station_alone(self):
        found = ask_behind(((9, -9, 3, 7),), ownof(0, 0, 999, 99), ownof(0, 1, 0, 1), ownof(1, 0, 0, 1))
        self.assertEqual(found, [told(Fraction(111, 11), 0), [-2], [-2]])

    def test_two_at_one_place_resting(self):
        self.assertEqual(ask_behind(AT_ONE_PLACE, ownof(0, 1, 4, 1), ownof(1, 0, 4, 1)), [told(1, 0), told(7, 0)])

    def test_moving_alike(self):
        found = ask_behind(ALIKE, ownof(0, 1, 0, 1), ownof(1, 0, 0, 1))
        self.assertEqual(found, [
            told(Fraction(-15, 2), Fraction(25, 2), first=1), told(Fraction(15, 2), Fraction(25, 2), first=2)])

    def test_against_time_and_place_as_they_turn(self):
        sides = set()
        for i, j in ALL_PAIRS:
            found = ask_behind(STATIONS, *[ownof(i, j, n, d) for n, d in CLOCKS])
            for (n, d), one in zip(CLOCKS, found):
                self.assertEqual(one, own_answer(STATIONS[i], *where(STATIONS[j], Fraction(n, d))), (i, j, n, d))
                sides.add(one[0])
        self.assertEqual(sides, {0, 1, 2})

    def test_like_own_where_the_others_clock_shows_0(self):
        for i, j in ALL_PAIRS:
            one, other = ask_behind(STATIONS, ownof(i, j, 0, 1), own(i, STATIONS[j][0], STATIONS[j][1]))
            self.assertEqual(one, other, (i, j))

    def test_a_clocks_number_at_the_edges(self):
        for n, d in ((-999, 1), (999, 1), (-999, 99), (999, 99), (0, 1), (0, 99)):
            for j in (0, 1):
                self.assertGreaterEqual(ask_behind(MEETING, ownof(0, j, n, d))[0][0], 0, (n, d))

    def test_a_clocks_number_out_of_range(self):
        for j in (0, 1):
            for n in (-1000, 1000, LEAST, GREATEST):
                self.assertEqual(ask_behind(MEETING, ownof(0, j, n, 1)), [[-22]], n)
            for d in (0, 100, GREATEST_UNSIGNED):
                self.assertEqual(ask_behind(MEETING, ownof(0, j, 1, d)), [[-22]], d)

    def test_no_such_station_goes_ahead_of_out_of_range(self):
        for other in (2, 6, GREATEST_UNSIGNED):
            for n, d in ((0, 1), (1000, 1), (0, 0), (LEAST, GREATEST_UNSIGNED)):
                found = ask_behind(
                    MEETING, ownof(other, 0, n, d), ownof(1, other, n, d), ownof(other, other, n, d))
                self.assertEqual(found, [[-2]] * 3, (other, n, d))


class ClosingTest(unittest.TestCase):
    def test_a_faster_one_and_a_slower_one(self):
        found = ask_behind(MEETING, closing(0, 1), closing(1, 0))
        self.assertEqual(found, [told(Fraction(3, 5)), told(Fraction(-3, 5))])

    def test_moving_alike(self):
        found = ask_behind(ALIKE, closing(0, 1), closing(1, 0), move(0, 8, 4), closing(0, 1))
        self.assertEqual(found, [[0, 0, 1], [0, 0, 1], [0], [0, 0, 1]])

    def test_two_resting(self):
        self.assertEqual(ask_behind(AT_ONE_PLACE, closing(0, 1)), [[0, 0, 1]])

    def test_of_each_factor_by_each(self):
        for p in range(1, 10):
            for q in range(1, 10):
                for other in ((0, 0, 1, 1), (5, -5, 9, 1), (0, 0, 1, 9), (0, 0, 4, 6)):
                    one = (3, 4, p, q)
                    found = ask_behind((one, other), closing(0, 1), closing(1, 0))
                    self.assertEqual(found, [told(speed_told(one, other)), told(speed_told(other, one))])

    def test_the_same_station_twice(self):
        self.assertEqual(ask_behind(MEETING, closing(0, 0), closing(1, 1)), [[-22]] * 2)

    def test_no_such_station_goes_ahead_of_it(self):
        found = ask_behind(
            MEETING, closing(2, 2), closing(2, 0), closing(0, 2), closing(GREATEST_UNSIGNED, GREATEST_UNSIGNED))
        self.assertEqual(found, [[-2]] * 4)
        self.assertEqual(ask_behind(MEETING[:1], closing(0, 0), closing(0, 1)), [[-22], [-2]])


class MeetTest(unittest.TestCase):
    def test_behind_0_by_their_clocks(self):
        found = ask_behind(NEARING, meet(0, 1), meet(1, 0))
        self.assertEqual(found, [told(Fraction(50, 3), Fraction(40, 3)), told(Fraction(40, 3), Fraction(50, 3))])

    def test_ahead_of_0_by_their_clocks(self):
        leaving = ((0, 0, 1, 1), (0, 10, 2, 1))
        found = ask_behind(leaving, meet(0, 1), meet(1, 0))
        self.assertEqual(found, [told(Fraction(-50, 3), Fraction(-40, 3)), told(Fraction(-40, 3), Fraction(-50, 3))])

    def test_behind_0_by_the_one_clock_and_ahead_of_it_by_the_other(self):
        found = ask_behind(((0, 0, 1, 1), (50, 3, 2, 1)), meet(0, 1), meet(1, 0))
        self.assertEqual(found, [told(45, -4), told(-4, 45)])

    def test_two_that_are_at_one_place_at_0(self):
        self.assertEqual(ask_behind(MEETING, meet(0, 1), meet(1, 0)), [[0, 0, 1, 0, 1]] * 2)
        self.assertEqual(ask_behind(((-9, 8, 7, 1), (-9, 8, 1, 7)), meet(0, 1)), [[0, 0, 1, 0, 1]])

    def test_moving_alike(self):
        self.assertEqual(ask_behind(ALIKE, meet(0, 1), meet(1, 0)), [[-33]] * 2)

    def test_moving_alike_at_one_time_and_place(self):
        self.assertEqual(ask_behind(((1, 2, 3, 4), (1, 2, 3, 4)), meet(0, 1)), [[-33]])

    def test_two_at_one_place_resting(self):
        self.assertEqual(ask_behind(AT_ONE_PLACE, meet(0, 1), meet(1, 0)), [[-33]] * 2)

    def test_moving_alike_by_factors_with_something_in_common(self):
        for first, second in (((2, 1), (8, 4)), ((3, 3), (7, 7)), ((2, 3), (6, 9)), ((4, 6), (6, 9))):
            found = ask_behind(((0, 0, *first), (5, 5, *second)), meet(0, 1), meet(1, 0))
            self.assertEqual(found, [[-33]] * 2, (first, second))
        found = ask_behind(((0, 0, 1, 1), (5, 5, 3, 1)), move(0, 9, 3), meet(0, 1), move(0, 3, 9), meet(0, 1))
        self.assertEqual([one[0] for one in found], [0, -33, 0, 0])

    def test_a_factor_turned_round_is_another(self):
        self.assertEqual(ask_behind(((0, 0, 1, 2), (0, 0, 2, 1)), meet(0, 1)), [told(0, 0)])

    def test_the_same_station_twice(self):
        self.assertEqual(ask_behind(MEETING, meet(0, 0), meet(1, 1)), [[-22]] * 2)

    def test_no_such_station_goes_ahead_of_both(self):
        found = ask_behind(ALIKE, meet(2, 2), meet(0, 2), meet(2, 1), meet(GREATEST_UNSIGNED, GREATEST_UNSIGNED))
        self.assertEqual(found, [[-2]] * 4)
        self.assertEqual(ask_behind(ALIKE[:1], meet(0, 0), meet(0, 1), meet(1, 1)), [[-22], [-2], [-2]])

    def test_against_their_places_at_one_time(self):
        for i, j in PAIRS:
            found, = ask_behind(STATIONS, meet(i, j))
            self.assertEqual(found, told(*meeting(STATIONS[i], STATIONS[j])), (i, j))

    def test_every_two_factors(self):
        factors = sorted({Fraction(p, q) for p in range(1, 10) for q in range(1, 10)})
        for one in factors:
            for other in factors:
                stations = ((-7, 50, one.numerator, one.denominator), (31, -2, other.numerator, other.denominator))
                found, = ask_behind(stations, meet(0, 1))
                self.assertEqual(found, [-33] if one == other else told(*meeting(*stations)))

    def test_both_are_at_one_time_and_place(self):
        found = ask_behind(NEARING, at(0, 50, 3), at(1, 40, 3))
        self.assertEqual(found[0], found[1])
        for i, j in PAIRS:
            clocks = fractions(ask_behind(STATIONS, meet(i, j))[0])
            self.assertEqual(where(STATIONS[i], clocks[0]), where(STATIONS[j], clocks[1]), (i, j))


if __name__ == "__main__":
    unittest.main()
