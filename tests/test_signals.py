"""Promise 4, of send, echo and ticks; and what holds of them."""

import unittest
from fractions import Fraction

from tests.line import (
    GREATEST, GREATEST_UNSIGNED, LEAST, ask_behind, comes, echo, send, station, tell, ticks, told, where,
)

# They meet where both clocks show 0; the second one moves right.
MEETING = ((0, 0, 1, 1), (0, 0, 2, 1))
# The second comes from the right; they meet at the time 50 by 3, where its clock shows 40 by 3.
NEARING = ((0, 0, 1, 1), (0, 10, 1, 2))
ALIKE = ((0, 0, 2, 1), (0, 10, 2, 1))
AT_ONE_PLACE = ((0, 5, 1, 1), (-3, 5, 1, 1))
STATIONS = ((0, 0, 1, 1), (0, 0, 2, 1), (-99, 99, 9, 1), (99, 99, 1, 9), (7, -12, 6, 4), (-20, 3, 5, 7))
CLOCKS = ((0, 1), (1, 1), (-1, 1), (-1, 2), (999, 1), (-999, 1), (999, 99), (-999, 98), (30, 4), (-250, 6))
PAIRS = tuple((i, j) for i in range(6) for j in range(6) if i != j)


def fraction(upper, lower):
    return Fraction(upper, lower)


class SendTest(unittest.TestCase):
    def test_ahead_of_where_they_meet_at_it_and_behind_it(self):
        found = ask_behind(MEETING, *[send(0, 1, n, 1) for n in (-2, -1, 0, 1, 2)])
        self.assertEqual(found, [told(-1), told(Fraction(-1, 2)), told(0), told(2), told(4)])

    def test_from_the_one_that_moves(self):
        found = ask_behind(MEETING, *[send(1, 0, n, 1) for n in (-2, -1, 0, 1, 2)])
        self.assertEqual(found, [told(-1), told(Fraction(-1, 2)), told(0), told(2), told(4)])

    def test_to_one_that_comes_nearer_and_goes_by(self):
        found = ask_behind(NEARING, send(0, 1, 0, 1), send(0, 1, 50, 3), send(0, 1, 20, 1), send(1, 0, 0, 1))
        self.assertEqual(found, [told(5), told(Fraction(40, 3)), told(20), told(10)])

    def test_two_at_one_place_resting(self):
        found = ask_behind(AT_ONE_PLACE, send(0, 1, 4, 1), send(1, 0, 4, 1), send(0, 1, -7, 2))
        self.assertEqual(found, [told(7), told(1), told(Fraction(-1, 2))])

    def test_moving_alike(self):
        self.assertEqual(ask_behind(ALIKE, send(0, 1, 0, 1), send(1, 0, 0, 1)), [told(20), told(5)])

    def test_a_factor_with_something_in_common(self):
        common = ((0, 0, 3, 3), (0, 0, 8, 4))
        self.assertEqual(ask_behind(common, send(0, 1, 1, 1), send(1, 0, 2, 2)), [told(2), told(2)])

    def test_it_comes_by_light_and_no_sooner(self):
        for i, j in PAIRS:
            found = ask_behind(STATIONS, *[send(i, j, n, d) for n, d in CLOCKS])
            for (n, d), one in zip(CLOCKS, found):
                self.assertEqual((one[0], len(one)), (0, 3))
                sent_time, sent_place = where(STATIONS[i], Fraction(n, d))
                time, place = where(STATIONS[j], fraction(*one[1:]))
                self.assertEqual(time - sent_time, abs(place - sent_place), (i, j, n, d))
                self.assertEqual(one, told(fraction(*one[1:])))

    def test_what_is_sent_later_is_heard_later(self):
        sorted_clocks = sorted(CLOCKS, key=lambda clock: Fraction(*clock))
        for i, j in PAIRS:
            found = ask_behind(STATIONS, *[send(i, j, n, d) for n, d in sorted_clocks])
            heard = [fraction(*one[1:]) for one in found]
            self.assertTrue(all(a < b for a, b in zip(heard, heard[1:])), (i, j))

    def test_over_a_third_station_it_is_heard_no_sooner(self):
        checked = 0
        for i, j in PAIRS:
            for k in range(6):
                if k in (i, j):
                    continue
                straight, first = ask_behind(STATIONS, send(i, j, 3, 1), send(i, k, 3, 1))
                if not (-999 <= first[1] <= 999 and first[2] <= 99):
                    continue
                over, = ask_behind(STATIONS, send(k, j, first[1], first[2]))
                self.assertLessEqual(fraction(*straight[1:]), fraction(*over[1:]), (i, j, k))
                checked += 1
        self.assertGreater(checked, 50)


class EchoTest(unittest.TestCase):
    def test_behind_where_they_meet(self):
        self.assertEqual(ask_behind(MEETING, echo(0, 1, 1, 1), echo(1, 0, 1, 1)), [told(4, 2), told(4, 2)])

    def test_ahead_of_where_they_meet(self):
        self.assertEqual(ask_behind(MEETING, echo(0, 1, -1, 1)), [told(Fraction(-1, 4), Fraction(-1, 2))])

    def test_from_where_they_meet(self):
        self.assertEqual(ask_behind(MEETING, echo(0, 1, 0, 1), echo(1, 0, 0, 5)), [told(0, 0), told(0, 0)])
        self.assertEqual(ask_behind(NEARING, echo(0, 1, 50, 3)), [told(Fraction(50, 3), Fraction(40, 3))])

    def test_two_at_one_place_resting(self):
        self.assertEqual(ask_behind(AT_ONE_PLACE, echo(0, 1, 4, 1), echo(1, 0, -1, 1)), [told(4, 7), told(-1, -4)])

    def test_two_resting_apart(self):
        self.assertEqual(ask_behind(((0, 0, 1, 1), (0, -7, 1, 1)), echo(0, 1, 1, 1)), [told(15, 8)])

    def test_moving_alike(self):
        self.assertEqual(ask_behind(ALIKE, echo(0, 1, 0, 1), echo(1, 0, 0, 1)), [told(25, 20), told(25, 5)])

    def test_against_time_and_speed(self):
        for i, j in PAIRS:
            found = ask_behind(STATIONS, *[echo(i, j, n, d) for n, d in CLOCKS])
            for (n, d), one in zip(CLOCKS, found):
                came = comes(STATIONS[i], STATIONS[j], Fraction(n, d))
                self.assertEqual(one, told(comes(STATIONS[j], STATIONS[i], came), came), (i, j, n, d))

    def test_it_came_to_the_other_when_what_is_sent_does(self):
        sent, back = ask_behind(STATIONS, send(2, 5, 7, 9), echo(2, 5, 7, 9))
        self.assertEqual(back[3:], sent[1:])


class TicksTest(unittest.TestCase):
    def test_ahead_of_where_they_meet_and_behind_it(self):
        found = ask_behind(MEETING, *[ticks(0, 1, n, 1) for n in (-2, -1, 0, 1)])
        self.assertEqual(found, [told(Fraction(1, 2)), told(Fraction(1, 2)), told(2), told(2)])

    def test_sent_ahead_of_it_and_the_next_behind_it(self):
        found = ask_behind(MEETING, ticks(0, 1, -1, 2), ticks(0, 1, -1, 4))
        self.assertEqual(found, [told(Fraction(5, 4)), told(Fraction(13, 8))])

    def test_two_at_one_place_resting_and_moving_alike(self):
        self.assertEqual(ask_behind(AT_ONE_PLACE, ticks(0, 1, 4, 1), ticks(1, 0, -9, 2)), [told(1), told(1)])
        self.assertEqual(ask_behind(ALIKE, ticks(0, 1, 4, 1), ticks(1, 0, -9, 2)), [told(1), told(1)])

    def test_against_time_and_speed(self):
        for i, j in PAIRS:
            found = ask_behind(STATIONS, *[ticks(i, j, n, d) for n, d in CLOCKS])
            for (n, d), one in zip(CLOCKS, found):
                first = comes(STATIONS[i], STATIONS[j], Fraction(n, d))
                later = comes(STATIONS[i], STATIONS[j], Fraction(n, d) + 1)
                self.assertEqual(one, told(later - first), (i, j, n, d))

    def test_the_greatest_clocks_number_goes_on_by_1_too(self):
        found = ask_behind(MEETING, ticks(0, 1, 999, 1), ticks(0, 1, -999, 1))
        self.assertEqual(found, [told(2), told(Fraction(1, 2))])

    def test_each_hears_the_others_ticks_alike(self):
        for i, j in PAIRS:
            for n in (-999, 999):
                one, other = ask_behind(STATIONS, ticks(i, j, n, 1), ticks(j, i, n, 1))
                self.assertEqual(one, other, (i, j, n))


class RefusalTest(unittest.TestCase):
    CALLS = (send, echo, ticks)

    def refused(self, i, j, n, d):
        found = [ask_behind(MEETING, call(i, j, n, d)) for call in self.CALLS]
        self.assertTrue(found[0] == found[1] == found[2], found)
        return found[0][0]

    def test_no_such_station(self):
        for other in (2, 6, GREATEST_UNSIGNED):
            self.assertEqual(self.refused(other, 0, 0, 1), [-2])
            self.assertEqual(self.refused(1, other, 0, 1), [-2])
            self.assertEqual(self.refused(other, other, 0, 1), [-2])

    def test_no_such_station_goes_ahead_of_out_of_range(self):
        self.assertEqual(self.refused(2, 0, 1000, 1), [-2])
        self.assertEqual(self.refused(0, 2, 0, 0), [-2])
        self.assertEqual(self.refused(2, 2, LEAST, GREATEST_UNSIGNED), [-2])

    def test_the_same_station_twice(self):
        self.assertEqual(self.refused(0, 0, 0, 1), [-22])
        self.assertEqual(self.refused(1, 1, 5, 1), [-22])
        self.assertEqual(self.refused(1, 1, 1000, 0), [-22])

    def test_one_station(self):
        for call in self.CALLS:
            found = ask_behind(MEETING[:1], call(0, 0, 0, 1), call(0, 1, 0, 1), call(1, 0, 0, 1), call(1, 1, 0, 1))
            self.assertEqual(found, [[-22], [-2], [-2], [-2]])

    def test_a_clocks_number_out_of_range(self):
        for n in (-1000, 1000, LEAST, GREATEST):
            self.assertEqual(self.refused(0, 1, n, 1), [-22])
        for d in (0, 100, GREATEST_UNSIGNED):
            self.assertEqual(self.refused(0, 1, 0, d), [-22])

    def test_a_clocks_number_at_the_edges(self):
        for n, d in ((-999, 1), (999, 1), (-999, 99), (999, 99)):
            for call in self.CALLS:
                self.assertEqual(ask_behind(MEETING, call(0, 1, n, d))[0][0], 0)

    def test_looking_and_refusals_change_nothing(self):
        given = ((0, 1, 3, 2), (1, 1, 0, 1), (0, 5, 0, 1), (0, 1, 0, 0))
        looks = [call(*one) for call in self.CALLS for one in given]
        found = ask_behind(MEETING, *looks, tell(0), tell(1), station(0, 0, 1, 1))
        self.assertEqual(found[-3:], [[0, *MEETING[0]], [0, *MEETING[1]], [2]])


if __name__ == "__main__":
    unittest.main()
