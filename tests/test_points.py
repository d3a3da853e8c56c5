"""Promise 3, of hears, till and own."""

import unittest
from fractions import Fraction
from math import gcd

from tests.line import (
    GREATEST, GREATEST_UNSIGNED, LEAST, ask_behind, can_be_heard_of_till, hears, hears_of, own, own_answer, tell, till,
    told,
)

RESTING = ((0, 0, 1, 1),)
# Its clock shows 4 at the time 5 and the place 3.
MOVING = ((0, 0, 2, 1),)
STATIONS = ((0, 0, 1, 1), (0, 0, 2, 1), (-99, 99, 9, 1), (99, 99, 1, 9), (7, -12, 6, 4), (-20, 3, 5, 7))
POINTS = tuple((t, x) for t in (-99, -31, -5, 0, 3, 5, 99) for x in (-99, -12, -3, 0, 3, 44, 99))


class HearsTest(unittest.TestCase):
    def test_of_a_point_on_the_right_and_on_the_left(self):
        found = ask_behind(RESTING, hears(0, 2, 5), hears(0, 2, -5), hears(0, -9, 5), hears(0, -9, -5))
        self.assertEqual(found, [told(7), told(7), told(-4), told(-4)])

    def test_by_a_clock_that_moves(self):
        found = ask_behind(MOVING, hears(0, 0, 3), hears(0, 0, -3), hears(0, 0, 1), hears(0, 1, 0))
        self.assertEqual(found, [told(Fraction(3, 2)), told(6), told(Fraction(1, 2)), told(2)])

    def test_of_where_it_is(self):
        found = ask_behind(MOVING, hears(0, 0, 0), hears(0, 5, 3), hears(0, -5, -3))
        self.assertEqual(found, [told(0), told(4), told(-4)])

    def test_of_a_point_ahead_of_its_way_and_behind_it(self):
        found = ask_behind(((10, 4, 3, 2),), hears(0, -99, 4), hears(0, 99, 4), hears(0, 10, -99), hears(0, 10, 99))
        self.assertEqual(found, [
            told(Fraction(-218, 3)), told(Fraction(267, 2)), told(Fraction(309, 2)), told(Fraction(190, 3))])

    def test_of_a_point_on_its_own_light(self):
        found = ask_behind(MOVING, hears(0, 7, 7), hears(0, -7, -7), hears(0, 7, -7), hears(0, -7, 7))
        self.assertEqual(found, [told(7), told(0), told(28), told(0)])

    def test_against_the_way_of_light(self):
        for i, one in enumerate(STATIONS):
            found = ask_behind(STATIONS, *[hears(i, t, x) for t, x in POINTS])
            self.assertEqual(found, [told(hears_of(t, x, one)) for t, x in POINTS], one)


class TillTest(unittest.TestCase):
    def test_of_a_point_on_the_right_and_on_the_left(self):
        found = ask_behind(RESTING, till(0, 2, 5), till(0, 2, -5), till(0, -9, 5), till(0, -9, -5))
        self.assertEqual(found, [told(-3), told(-3), told(-14), told(-14)])

    def test_by_a_clock_that_moves(self):
        found = ask_behind(MOVING, till(0, 0, 3), till(0, 0, -3), till(0, 0, 1), till(0, 1, 0))
        self.assertEqual(found, [told(-6), told(Fraction(-3, 2)), told(-2), told(Fraction(1, 2))])

    def test_of_where_it_is(self):
        found = ask_behind(MOVING, till(0, 0, 0), till(0, 5, 3), till(0, -5, -3))
        self.assertEqual(found, [told(0), told(4), told(-4)])

    def test_of_a_point_ahead_of_its_way_and_behind_it(self):
        found = ask_behind(((10, 4, 3, 2),), till(0, -99, 4), till(0, 99, 4), till(0, 10, -99), till(0, 10, 99))
        self.assertEqual(found, [
            told(Fraction(-327, 2)), told(Fraction(178, 3)), told(Fraction(-206, 3)), told(Fraction(-285, 2))])

    def test_against_the_way_of_light(self):
        for i, one in enumerate(STATIONS):
            found = ask_behind(STATIONS, *[till(i, t, x) for t, x in POINTS])
            self.assertEqual(found, [told(can_be_heard_of_till(t, x, one)) for t, x in POINTS], one)


class OwnTest(unittest.TestCase):
    def test_the_three_sides(self):
        found = ask_behind(RESTING, own(0, 3, 0), own(0, 3, 5), own(0, 3, -5))
        self.assertEqual(found, [told(3, 0), told(3, 5, first=1), told(3, 5, first=2)])

    def test_by_a_clock_that_moves(self):
        found = ask_behind(MOVING, own(0, 5, 3), own(0, 0, 4), own(0, 4, 0), own(0, 5, 4))
        self.assertEqual(found, [
            told(4, 0), told(-3, 5, first=1), told(5, 3, first=2), told(Fraction(13, 4), Fraction(5, 4), first=1)])

    def test_of_where_the_clock_shows_0(self):
        self.assertEqual(ask_behind(((7, -8, 3, 5),), own(0, 7, -8)), [told(0, 0)])

    def test_of_points_ahead_of_the_way_and_behind_it(self):
        found = ask_behind(((10, 4, 1, 1),), own(0, -99, 4), own(0, 99, 4), own(0, -99, 99), own(0, 99, -99))
        self.assertEqual(found, [told(-109, 0), told(89, 0), told(-109, 95, first=1), told(89, 103, first=2)])

    def test_against_time_and_place_as_they_turn(self):
        sides = set()
        for i, one in enumerate(STATIONS):
            found = ask_behind(STATIONS, *[own(i, t, x) for t, x in POINTS])
            self.assertEqual(found, [own_answer(one, t, x) for t, x in POINTS], one)
            sides |= {answer[0] for answer in found}
            self.assertTrue(all(answer[3] >= 0 for answer in found))
        self.assertEqual(sides, {0, 1, 2})

    def test_of_hears_and_till(self):
        for i in range(len(STATIONS)):
            for t, x in POINTS:
                one, heard, last = ask_behind(STATIONS, own(i, t, x), hears(i, t, x), till(i, t, x))
                heard, last = Fraction(*heard[1:]), Fraction(*last[1:])
                self.assertEqual(one, told((heard + last) / 2, (heard - last) / 2, first=one[0]), (i, t, x))
                self.assertEqual(one[0] == 0, heard == last)


class PointTest(unittest.TestCase):
    """What holds of all three."""

    CALLS = (hears, till, own)

    def test_each_fraction_has_nothing_in_common(self):
        for i in range(len(STATIONS)):
            looks = [call(i, t, x) for call in self.CALLS for t, x in POINTS]
            for one in ask_behind(STATIONS, *looks):
                for upper, lower in zip(one[1::2], one[2::2]):
                    self.assertGreaterEqual(lower, 1)
                    self.assertEqual(gcd(upper, lower), 1)

    def test_edges_that_are_in(self):
        for call in self.CALLS:
            for t, x in ((-99, 0), (99, 0), (0, -99), (0, 99), (-99, 99), (99, -99), (99, 99), (-99, -99)):
                one, = ask_behind(RESTING, call(0, t, x))
                self.assertGreaterEqual(one[0], 0, (call, t, x))

    def test_edges_that_are_out(self):
        for call in self.CALLS:
            for value in (-100, 100, LEAST, GREATEST):
                found = ask_behind(RESTING, call(0, value, 0), call(0, 0, value), call(0, value, value))
                self.assertEqual(found, [[-22]] * 3, (call, value))

    def test_no_such_station(self):
        for call in self.CALLS:
            for i in (1, 6, GREATEST_UNSIGNED):
                self.assertEqual(ask_behind(RESTING, call(i, 0, 0)), [[-2]], (call, i))
            self.assertEqual(ask_behind((), call(0, 0, 0)), [[-2]])

    def test_no_such_station_goes_ahead_of_out_of_range(self):
        for call in self.CALLS:
            found = ask_behind(RESTING, call(1, 100, 0), call(1, 0, -100), call(GREATEST_UNSIGNED, LEAST, GREATEST))
            self.assertEqual(found, [[-2]] * 3, call)

    def test_looking_and_refusals_change_nothing(self):
        looks = [call(*given) for call in self.CALLS for given in ((0, 3, 4), (0, 100, 0), (1, 0, 0))]
        self.assertEqual(ask_behind(((1, 2, 3, 4),), *looks, tell(0))[-1], [0, 1, 2, 3, 4])


if __name__ == "__main__":
    unittest.main()
