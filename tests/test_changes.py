"""Promise 2: station, drop, move and set."""

import unittest

from stationsignals.board import Board
from stationsignals.changes import add_station, drop_station, move_station, set_station
from tests.line import (
    BEGIN, GREATEST, GREATEST_UNSIGNED, LEAST, ask, ask_behind, drop, move, put, station, tell,
)

THREE = ((1, 2, 3, 4), (-5, 6, 1, 9), (7, -8, 5, 2))
SIX = tuple((k, -k, k + 1, 1) for k in range(6))
OUTSIDE_SPOT = (-100, 100, LEAST, GREATEST)
OUTSIDE_FACTOR = (0, 10, GREATEST_UNSIGNED)


class StationTest(unittest.TestCase):
    def test_numbers_are_given_from_0(self):
        found = ask(BEGIN, station(1, 2, 3, 4), station(-5, 6, 1, 9), tell(0), tell(1))
        self.assertEqual(found, [[0], [0], [1], [0, 1, 2, 3, 4], [0, -5, 6, 1, 9]])

    def test_edges_that_are_in(self):
        for one in ((-99, 99, 1, 9), (99, -99, 9, 1), (-99, -99, 1, 1), (99, 99, 8, 9)):
            with self.subTest(one=one):
                self.assertEqual(ask_behind((), station(*one), tell(0)), [[0], [0, *one]])

    def test_edges_that_are_out(self):
        for value in OUTSIDE_SPOT:
            with self.subTest(value=value):
                found = ask_behind((), station(value, 0, 1, 1), station(0, value, 1, 1), tell(0))
                self.assertEqual(found, [[-22], [-22], [-2]])
        for value in OUTSIDE_FACTOR:
            with self.subTest(value=value):
                found = ask_behind((), station(0, 0, value, 1), station(0, 0, 1, value), tell(0))
                self.assertEqual(found, [[-22], [-22], [-2]])

    def test_the_sixth_and_the_seventh(self):
        found = ask_behind(SIX[:5], station(*SIX[5]), station(0, 0, 1, 1), tell(5), tell(6))
        self.assertEqual(found, [[5], [-28], [0, *SIX[5]], [-2]])

    def test_out_of_range_goes_ahead_of_too_many(self):
        found = ask_behind(
            SIX, station(100, 0, 1, 1), station(0, -100, 1, 1), station(0, 0, 0, 1), station(0, 0, 1, 10),
            station(0, 0, 1, 1))
        self.assertEqual(found, [[-22]] * 4 + [[-28]])

    def test_behind_a_drop_there_is_room_again(self):
        found = ask_behind(SIX, drop(0), station(9, 9, 9, 9), station(0, 0, 1, 1), tell(5))
        self.assertEqual(found, [[5], [5], [-28], [0, 9, 9, 1, 1]])

    def test_two_stations_may_be_alike(self):
        found = ask_behind(((1, 1, 2, 1),), station(1, 1, 2, 1), tell(0), tell(1))
        self.assertEqual(found, [[1], [0, 1, 1, 2, 1], [0, 1, 1, 2, 1]])


class DropTest(unittest.TestCase):
    def test_those_behind_are_numbered_one_less(self):
        for i in range(3):
            with self.subTest(i=i):
                left = [[0, *one] for k, one in enumerate(THREE) if k != i]
                self.assertEqual(ask_behind(THREE, drop(i), tell(0), tell(1), tell(2)), [[2], *left, [-2]])

    def test_the_last_and_the_one_behind_it(self):
        self.assertEqual(ask_behind(THREE, drop(3), drop(2), drop(2), drop(1)), [[-2], [2], [-2], [1]])

    def test_till_none_is_left(self):
        self.assertEqual(ask_behind(SIX, *[drop(0)] * 7), [[5], [4], [3], [2], [1], [0], [-2]])

    def test_no_such_station(self):
        self.assertEqual(ask_behind((), drop(0), drop(GREATEST_UNSIGNED)), [[-2], [-2]])
        self.assertEqual(ask_behind(SIX, drop(6), drop(GREATEST_UNSIGNED)), [[-2], [-2]])


class MoveTest(unittest.TestCase):
    def test_it_has_that_factor_and_keeps_its_clock(self):
        found = ask_behind(THREE, move(1, 7, 3), tell(0), tell(1), tell(2))
        self.assertEqual(found, [[0], [0, *THREE[0]], [0, -5, 6, 7, 3], [0, *THREE[2]]])

    def test_edges_that_are_in(self):
        for p, q in ((1, 9), (9, 1), (1, 1)):
            with self.subTest(p=p, q=q):
                self.assertEqual(ask_behind(THREE, move(2, p, q), tell(2)), [[0], [0, 7, -8, p, q]])

    def test_edges_that_are_out(self):
        for value in OUTSIDE_FACTOR:
            with self.subTest(value=value):
                found = ask_behind(THREE, move(0, value, 1), move(0, 1, value), tell(0))
                self.assertEqual(found, [[-22], [-22], [0, *THREE[0]]])

    def test_a_factor_with_something_in_common(self):
        self.assertEqual(ask_behind(THREE, move(0, 6, 8), tell(0)), [[0], [0, 1, 2, 3, 4]])

    def test_no_such_station_goes_ahead_of_out_of_range(self):
        found = ask_behind(THREE, move(3, 1, 1), move(3, 0, 10), move(GREATEST_UNSIGNED, 0, 0), move(2, 1, 1))
        self.assertEqual(found, [[-2], [-2], [-2], [0]])


class SetTest(unittest.TestCase):
    def test_its_clock_shows_0_there_and_it_keeps_its_factor(self):
        found = ask_behind(THREE, put(1, -30, 40), tell(0), tell(1), tell(2))
        self.assertEqual(found, [[0], [0, *THREE[0]], [0, -30, 40, 1, 9], [0, *THREE[2]]])

    def test_edges_that_are_in(self):
        for t, x in ((-99, 99), (99, -99), (0, 0)):
            with self.subTest(t=t, x=x):
                self.assertEqual(ask_behind(THREE, put(2, t, x), tell(2)), [[0], [0, t, x, 5, 2]])

    def test_edges_that_are_out(self):
        for value in OUTSIDE_SPOT:
            with self.subTest(value=value):
                found = ask_behind(THREE, put(0, value, 0), put(0, 0, value), tell(0))
                self.assertEqual(found, [[-22], [-22], [0, *THREE[0]]])

    def test_no_such_station_goes_ahead_of_out_of_range(self):
        found = ask_behind(THREE, put(3, 0, 0), put(3, 100, -100), put(GREATEST_UNSIGNED, LEAST, 0), put(2, 0, 0))
        self.assertEqual(found, [[-2], [-2], [-2], [0]])


class RefusalTest(unittest.TestCase):
    def test_a_refusal_changes_nothing(self):
        refused = (
            station(0, 0, 1, 1), station(100, 0, 1, 1), drop(6), move(6, 1, 1), move(0, 0, 1), move(0, 1, 10),
            put(6, 0, 0), put(0, 0, 100), put(0, -100, 0))
        looks = [tell(i) for i in range(6)]
        for call in refused:
            with self.subTest(call=call):
                found = ask_behind(SIX, call, *looks)
                self.assertLess(found[0][0], 0)
                self.assertEqual(len(found[0]), 1)
                self.assertEqual(found[1:], [[0, *one] for one in SIX])


class KeptTest(unittest.TestCase):
    """What a change keeps, so that it can be taken back."""

    def begun(self):
        board = Board()
        board.begin()
        return board

    def test_each_change_keeps_what_was_ahead_of_it(self):
        board = self.begun()
        seen = []
        for change in (
                lambda: add_station(board, 1, 2, 3, 4), lambda: move_station(board, 0, 1, 1),
                lambda: set_station(board, 0, 5, 6), lambda: drop_station(board, 0)):
            seen.append(board.stations)
            change()
            self.assertEqual(board.past, tuple(seen))
        self.assertEqual([(one.time, one.place, one.p, one.q) for one in seen[1]], [(1, 2, 3, 4)])

    def test_what_is_refused_keeps_nothing(self):
        board = self.begun()
        add_station(board, 100, 0, 1, 1)
        drop_station(board, 0)
        move_station(board, 0, 1, 1)
        set_station(board, 0, 0, 0)
        self.assertEqual(board.past, ())

    def test_the_last_10_are_kept_and_begin_drops_them(self):
        board = self.begun()
        add_station(board, 0, 0, 1, 1)
        seen = []
        for place in range(10):
            seen.append(board.stations)
            set_station(board, 0, 0, place)
        self.assertEqual(board.past, tuple(seen))
        board.begin()
        self.assertEqual(board.past, ())


if __name__ == "__main__":
    unittest.main()
