"""What holds, a to f, over several stations, factors and clocks' numbers."""

import unittest
from fractions import Fraction
from itertools import permutations, product

from tests.line import (
    BACK, STATE, ask_behind, at, closing, drop, echo, fractions, go_round, hears, meet, move, own, ownof, put, relay,
    send, station, tell, ticks, till, told, where,
)

SETS = (
    ((0, 0, 1, 1), (0, 0, 2, 1), (-99, 99, 9, 1), (99, 99, 1, 9), (7, -12, 6, 4), (-20, 3, 5, 7)),
    ((0, 5, 1, 1), (-3, 5, 1, 1), (0, 5, 8, 4), (0, 5, 1, 2), (12, -40, 2, 1), (99, -99, 3, 8)),
)
CLOCKS = ((-999, 1), (-40, 1), (-7, 2), (-1, 99), (0, 1), (1, 3), (1, 1), (12, 5), (500, 6), (999, 1))
POINTS = ((0, 0), (5, 3), (-99, 99), (99, 12), (-40, -7), (8, 8))
PAIRS = tuple(permutations(range(6), 2))


class LightTest(unittest.TestCase):
    """a. What's sent comes by light, and no sooner; a station hears at once of where it is itself."""

    def test_what_is_sent_comes_by_light(self):
        for stations, (i, j) in product(SETS, PAIRS):
            found = ask_behind(stations, *[send(i, j, n, d) for n, d in CLOCKS])
            for (n, d), one in zip(CLOCKS, found):
                time, place = where(stations[i], Fraction(n, d))
                its_time, its_place = where(stations[j], *fractions(one))
                self.assertEqual(its_time - time, abs(its_place - place), (i, j, n, d))

    def test_of_a_point_it_hears_by_light_and_light_goes_there_from_it(self):
        for stations, i, (t, x) in product(SETS, range(6), POINTS):
            heard, last = ask_behind(stations, hears(i, t, x), till(i, t, x))
            time, place = where(stations[i], *fractions(heard))
            self.assertEqual(time - t, abs(place - x), (i, t, x))
            time, place = where(stations[i], *fractions(last))
            self.assertEqual(t - time, abs(place - x), (i, t, x))

    def test_a_station_hears_at_once_of_where_it_is(self):
        for stations, i, (n, d) in product(SETS, range(6), CLOCKS):
            clock = Fraction(n, d)
            found = ask_behind(
                stations, ownof(i, i, n, d), relay((i, i), n, d), go_round((i, i, i), n, d),
                hears(i, *stations[i][:2]), till(i, *stations[i][:2]), own(i, *stations[i][:2]))
            self.assertEqual(found, [told(clock, 0), told(clock), told(clock), told(0), told(0), told(0, 0)], (i, n, d))


class LaterTest(unittest.TestCase):
    """b. What's sent later is heard later; over a third station it's heard no sooner."""

    def test_what_is_sent_later_is_heard_later(self):
        for stations, (i, j) in product(SETS, PAIRS):
            for way in (lambda n, d: send(i, j, n, d), lambda n, d: echo(i, j, n, d),
                        lambda n, d: relay((i, 3, j, 0), n, d), lambda n, d: go_round((i, j, 4), n, d)):
                found = [fractions(one)[0] for one in ask_behind(stations, *[way(n, d) for n, d in CLOCKS])]
                self.assertTrue(all(a < b for a, b in zip(found, found[1:])), (i, j))
            for one in ask_behind(stations, *[ticks(i, j, n, d) for n, d in CLOCKS]):
                self.assertGreater(fractions(one)[0], 0, (i, j))

    def test_over_a_third_station_it_is_heard_no_sooner(self):
        for stations, (i, k, j), (n, d) in product(SETS, permutations(range(6), 3), CLOCKS[::3]):
            straight, over = ask_behind(stations, send(i, j, n, d), relay((i, k, j), n, d))
            self.assertLessEqual(fractions(straight), fractions(over), (i, k, j, n, d))

    def test_an_echo_is_back_no_sooner_than_it_was_sent(self):
        for stations, (i, j), (n, d) in product(SETS, PAIRS, CLOCKS[::3]):
            back = fractions(ask_behind(stations, go_round((i, j), n, d))[0])[0]
            self.assertGreaterEqual(back, Fraction(n, d), (i, j, n, d))


class OwnSquaresTest(unittest.TestCase):
    """c. Own time squared, less own place squared, is the same as from where the clock showed 0, whoever tells."""

    def test_of_points(self):
        for stations, i, (t, x) in product(SETS, range(6), POINTS):
            time, place = fractions(ask_behind(stations, own(i, t, x))[0])
            start_time, start_place = stations[i][:2]
            gone = (t - start_time) ** 2 - (x - start_place) ** 2
            self.assertEqual(time * time - place * place, gone, (i, t, x))

    def test_of_other_stations(self):
        for stations, i, j, (n, d) in product(SETS, range(6), range(6), CLOCKS):
            time, place = fractions(ask_behind(stations, ownof(i, j, n, d))[0])
            j_time, j_place = where(stations[j], Fraction(n, d))
            gone = (j_time - stations[i][0]) ** 2 - (j_place - stations[i][1]) ** 2
            self.assertEqual(time * time - place * place, gone, (i, j, n, d))

    def test_all_that_show_0_at_one_time_and_place_tell_the_same(self):
        stations = tuple((-4, 9, p, q) for p, q in ((1, 1), (9, 1), (1, 9), (4, 6), (7, 5), (2, 3)))
        for t, x in POINTS:
            found = [fractions(one) for one in ask_behind(stations, *[own(i, t, x) for i in range(6)])]
            self.assertEqual(len({time * time - place * place for time, place in found}), 1, (t, x))


class AlikeTest(unittest.TestCase):
    """d. Each hears the other's ticks as much slower, or faster."""

    def test_ticks_ahead_of_where_they_meet_and_behind_it(self):
        for stations, (i, j) in product(SETS, PAIRS):
            for n in (-999, 999):
                one, other = ask_behind(stations, ticks(i, j, n, 1), ticks(j, i, n, 1))
                self.assertEqual(one, other, (i, j, n))

    def test_as_much_faster_ahead_of_it_as_slower_behind_it(self):
        for stations, (i, j) in product(SETS, PAIRS):
            ahead, behind = ask_behind(stations, ticks(i, j, -999, 1), ticks(i, j, 998, 1))
            factors = [Fraction(*stations[k][2:]) for k in (i, j)]
            if factors[0] != factors[1]:
                self.assertEqual(fractions(ahead)[0] * fractions(behind)[0], 1, (i, j))

    def test_of_two_that_met_at_0_own_time_goes_as_slow_for_each(self):
        stations = ((3, 3, 1, 1), (3, 3, 9, 2), (3, 3, 2, 9), (3, 3, 4, 6), (3, 3, 7, 5), (3, 3, 8, 4))
        for (i, j), (n, d) in product(PAIRS, CLOCKS):
            one, other = ask_behind(stations, ownof(i, j, n, d), ownof(j, i, n, d))
            self.assertEqual(one[1:], other[1:], (i, j, n, d))

    def test_closing_is_as_much_the_other_way(self):
        for stations, (i, j) in product(SETS, PAIRS):
            one, other = ask_behind(stations, closing(i, j), closing(j, i))
            self.assertEqual(fractions(one)[0], -fractions(other)[0], (i, j))


class MeetingTest(unittest.TestCase):
    """e. Where two meet both are at one time and place; they do, unless they move alike."""

    def test_all_of_two(self):
        met = 0
        for stations, (i, j) in product(SETS, PAIRS):
            one, other = ask_behind(stations, meet(i, j), meet(j, i))
            alike = Fraction(*stations[i][2:]) == Fraction(*stations[j][2:])
            self.assertEqual(one[0], -33 if alike else 0, (i, j))
            if not alike:
                clocks = fractions(one)
                self.assertEqual(where(stations[i], clocks[0]), where(stations[j], clocks[1]), (i, j))
                self.assertEqual(fractions(other), clocks[::-1], (i, j))
                met += 1
        self.assertGreater(met, 50)

    def test_what_is_sent_there_comes_at_once(self):
        checked = 0
        for stations, (i, j) in product(SETS, PAIRS):
            one, = ask_behind(stations, meet(i, j))
            if one[0] == 0 and abs(one[1]) <= 999 and one[2] <= 99:
                found = ask_behind(
                    stations, send(i, j, *one[1:3]), echo(i, j, *one[1:3]), ownof(j, i, *one[1:3]))
                self.assertEqual(found, [[0, *one[3:]], one, [0, *one[3:], 0, 1]], (i, j))
                checked += 1
        self.assertGreater(checked, 20)


class AsItWasTest(unittest.TestCase):
    """f. Taken back, all is as it was. What's refused, and looking, changes nothing."""

    CHANGES = (
        drop(0), drop(3), drop(4), move(0, 9, 1), move(2, 6, 4), put(1, -99, 99), put(4, 0, 0), station(1, 2, 3, 4))
    REFUSED = (
        station(0, 0, 10, 1), drop(6), move(0, 0, 0), put(9, 0, 0), tell(9), at(0, 0, 0), send(1, 1, 0, 1),
        echo(0, 9, 0, 1), ticks(0, 1, 1000, 1), hears(0, 100, 0), till(9, 0, 0), own(0, 0, 100), ownof(0, 1, 0, 0),
        meet(1, 1), relay((0,), 0, 1), go_round((0, 9), 0, 1), closing(0, 0))

    def looks(self, stations):
        some = list(range(len(stations)))
        looks = [STATE] + [tell(i) for i in range(6)]
        for i in some:
            looks += [at(i, -7, 3), hears(i, 4, 5), till(i, 4, 5), own(i, 4, 5), ownof(0, i, 2, 3)]
            looks += [send(0, i, 1, 2), echo(i, 1, 1, 2), ticks(i, 0, 1, 2), meet(0, i), closing(1, i)]
        return looks + [relay(some, 1, 1), go_round(some, 1, 1)]

    def test_taken_back_all_is_as_it_was(self):
        for stations in SETS:
            five = stations[:5]
            looks = self.looks(five)
            for change in self.CHANGES:
                found = ask_behind(five, *looks, change, BACK, *looks)
                self.assertGreaterEqual(found[len(looks)][0], 0, change)
                self.assertEqual(found[len(looks) + 1], [5], change)
                self.assertEqual(found[:len(looks)], found[len(looks) + 2:], change)

    def test_several_taken_back_one_behind_another(self):
        for stations in SETS:
            five = stations[:5]
            looks = self.looks(five)
            for first, second in product(self.CHANGES, repeat=2):
                found = ask_behind(five, *looks, first, second, BACK, BACK, *looks)
                if found[len(looks) + 1][0] >= 0:
                    self.assertEqual(found[len(looks) + 2:len(looks) + 4], [[6], [5]])
                    self.assertEqual(found[:len(looks)], found[len(looks) + 4:], (first, second))

    def test_what_is_refused_and_looking_changes_nothing(self):
        for stations in SETS:
            five = stations[:5]
            looks = self.looks(five)
            found = ask_behind(five, *looks, *self.REFUSED, *looks)
            middle = found[len(looks):-len(looks)]
            self.assertTrue(all(len(one) == 1 and one[0] < 0 for one in middle), middle)
            self.assertEqual(found[:len(looks)], found[-len(looks):])


if __name__ == "__main__":
    unittest.main()
