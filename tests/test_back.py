"""Promise 1, of back and state; and what a change is."""

import unittest

from tests.line import (
    BACK, BEGIN, STATE, ask, ask_behind, at, closing, drop, echo, go_round, hears, meet, move, own, ownof, put, relay,
    send, station, tell, ticks, till,
)

THREE = ((1, 2, 3, 4), (-5, 6, 1, 9), (7, -8, 5, 2))
ALL = tuple(tell(i) for i in range(6)) + tuple(at(i, 5, 3) for i in range(6))
CHANGES = (
    station(0, 0, 1, 1), drop(0), drop(1), drop(2), move(0, 7, 3), move(1, 6, 8), move(2, 5, 2), put(0, 9, 9),
    put(1, -99, 99), put(2, 7, -8))
LOOKS = (
    tell(0), at(0, 1, 1), send(0, 1, 1, 1), echo(0, 1, 1, 1), ticks(0, 1, 1, 1), hears(0, 1, 1), till(0, 1, 1),
    own(0, 1, 1), ownof(0, 1, 1, 1), meet(0, 1), relay((0, 1), 1, 1), go_round((0, 1), 1, 1), closing(0, 1), STATE)
REFUSED = (
    station(100, 0, 1, 1), station(0, 0, 0, 1), drop(3), move(3, 1, 1), move(0, 0, 1), put(3, 0, 0), put(0, 0, 100),
    tell(3), at(3, 0, 1), at(0, 0, 0), send(0, 0, 0, 1), echo(0, 3, 0, 1), ticks(0, 1, 1000, 1), hears(0, 100, 0),
    till(3, 0, 0), own(0, 0, -100), ownof(0, 3, 0, 1), meet(0, 0), relay((), 0, 1), go_round((0, 3), 0, 1),
    closing(1, 1))


class BackTest(unittest.TestCase):
    def test_no_change(self):
        self.assertEqual(ask(BEGIN, BACK), [[0], [-6]])
        self.assertEqual(ask(BEGIN, BACK, BACK, STATE), [[0], [-6], [-6], [0, 0]])

    def test_no_change_straight_behind_a_begin_that_came_again(self):
        found = ask(BEGIN, station(0, 0, 1, 1), move(0, 2, 1), BEGIN, BACK, STATE, tell(0))
        self.assertEqual(found, [[0], [0], [0], [0], [-6], [0, 0], [-2]])

    def test_a_begin_cannot_be_taken_back(self):
        found = ask(BEGIN, station(1, 2, 3, 4), BEGIN, station(5, 6, 7, 8), BACK, BACK, tell(0))
        self.assertEqual(found, [[0], [0], [0], [0], [0], [-6], [-2]])

    def test_behind_each_change_all_is_as_it_was(self):
        for change in CHANGES:
            with self.subTest(change=change):
                found = ask_behind(THREE, *ALL, STATE, change, STATE, BACK, *ALL, STATE)
                ahead, behind = found[:len(ALL) + 1], found[-len(ALL) - 1:]
                self.assertEqual(ahead[:3], [[0, *one] for one in THREE])
                self.assertEqual(ahead[-1], [3, 3])
                self.assertEqual(found[len(ALL) + 2][1], 4)
                self.assertEqual(found[len(ALL) + 3], [3])
                self.assertEqual(behind, ahead)

    def test_a_change_to_what_was_there_already_counts(self):
        found = ask_behind(THREE, move(0, 3, 4), put(0, 1, 2), STATE, BACK, BACK, STATE)
        self.assertEqual(found, [[0], [0], [3, 5], [4], [3], [3, 3]])

    def test_one_behind_another_back_to_the_beginning(self):
        found = ask_behind(THREE[:1], move(0, 5, 5), put(0, 8, 9), drop(0), BACK, tell(0), BACK, tell(0), BACK,
                           tell(0), BACK, tell(0), BACK)
        self.assertEqual(found[3:], [
            [3], [0, 8, 9, 1, 1], [2], [0, 1, 2, 1, 1], [1], [0, 1, 2, 3, 4], [0], [-2], [-6]])

    def test_ten_of_more_changes(self):
        for more in (0, 1, 2, 7):
            with self.subTest(more=more):
                count = 10 + more
                puts = [put(0, 0, place) for place in range(1, count)]
                backs = [call for step in range(10) for call in (BACK, tell(0))]
                found = ask_behind((), station(0, 0, 1, 1), *puts, STATE, *backs, BACK, STATE)[count:]
                self.assertEqual(found[0], [1, 10])
                places = [place for place in range(count - 2, count - 12, -1)]
                told = [one for left, place in zip(range(9, -1, -1), places)
                        for one in ([left], [0, 0, place, 1, 1] if place >= 0 else [-2])]
                self.assertEqual(found[1:21], told)
                self.assertEqual(found[21:], [[-6], [1 if more else 0, 0]])

    def test_nine_ten_and_eleven_changes_in_state(self):
        found = ask_behind(((0, 0, 1, 1),), *[call for place in range(11) for call in (put(0, 0, place), STATE)])
        self.assertEqual([one[1] for one in found[1::2]], [2, 3, 4, 5, 6, 7, 8, 9, 10, 10, 10])

    def test_a_back_is_no_change(self):
        found = ask_behind(THREE, BACK, BACK, STATE, tell(0), tell(1), BACK, BACK, STATE)
        self.assertEqual(found, [[2], [1], [1, 1], [0, *THREE[0]], [-2], [0], [-6], [0, 0]])

    def test_a_change_behind_a_back(self):
        found = ask_behind(THREE, drop(0), BACK, put(1, 0, 0), STATE, tell(1), BACK, tell(1), BACK, STATE)
        self.assertEqual(found, [
            [2], [3], [0], [3, 4], [0, 0, 0, 1, 9], [3], [0, *THREE[1]], [2], [2, 2]])

    def test_a_change_behind_some_backs_of_ten(self):
        puts = [put(0, 0, place) for place in range(1, 13)]
        found = ask_behind(
            ((0, 0, 1, 1),), *puts, BACK, BACK, BACK, put(0, 0, 50), STATE, *[BACK] * 8, tell(0), BACK)[12:]
        self.assertEqual(found[:5], [[9], [8], [7], [0], [1, 8]])
        self.assertEqual(found[5:], [[7], [6], [5], [4], [3], [2], [1], [0], [0, 0, 2, 1, 1], [-6]])

    def test_a_refused_call_is_no_change(self):
        for call in REFUSED:
            with self.subTest(call=call):
                found = ask_behind(THREE, call, STATE, *ALL, BACK, tell(1), tell(2))
                self.assertLess(found[0][0], 0)
                self.assertEqual(found[1:5], [[3, 3]] + [[0, *one] for one in THREE])
                self.assertEqual(found[-3:], [[2], [0, *THREE[1]], [-2]])

    def test_one_too_many_is_no_change(self):
        found = ask_behind(((0, 0, 1, 1),) * 6, station(0, 0, 1, 1), STATE, BACK, STATE)
        self.assertEqual(found, [[-28], [6, 6], [5], [5, 5]])

    def test_none_to_meet_is_no_change(self):
        found = ask_behind(((0, 0, 1, 1),) * 2, meet(0, 1), STATE, BACK, STATE)
        self.assertEqual(found, [[-33], [2, 2], [1], [1, 1]])

    def test_a_refused_back_changes_nothing(self):
        found = ask_behind((), BACK, STATE, station(1, 2, 3, 4), STATE, tell(0))
        self.assertEqual(found, [[-6], [0, 0], [0], [1, 1], [0, 1, 2, 3, 4]])

    def test_a_look_is_no_change(self):
        for call in LOOKS:
            with self.subTest(call=call):
                found = ask_behind(THREE, call, STATE, *ALL, BACK, tell(1), tell(2))
                self.assertGreaterEqual(found[0][0], 0)
                self.assertEqual(found[1:5], [[3, 3]] + [[0, *one] for one in THREE])
                self.assertEqual(found[-3:], [[2], [0, *THREE[1]], [-2]])

    def test_numbers_are_as_they_were_behind_a_drop_that_is_taken_back(self):
        found = ask_behind(THREE, drop(1), tell(1), BACK, tell(0), tell(1), tell(2))
        self.assertEqual(found, [[2], [0, *THREE[2]], [3]] + [[0, *one] for one in THREE])

    def test_a_seventh_station_has_room_behind_a_back(self):
        found = ask_behind(((0, 0, 1, 1),) * 6, BACK, station(1, 2, 3, 4), station(0, 0, 1, 1), tell(5))
        self.assertEqual(found, [[5], [5], [-28], [0, 1, 2, 3, 4]])


class StateTest(unittest.TestCase):
    def test_behind_begin(self):
        self.assertEqual(ask(BEGIN, STATE), [[0], [0, 0]])

    def test_both_numbers(self):
        found = ask_behind(
            (), station(0, 0, 1, 1), STATE, station(0, 0, 1, 1), STATE, move(1, 2, 1), STATE, drop(0), STATE, BACK,
            STATE)
        self.assertEqual(found[1::2], [[1, 1], [2, 2], [2, 3], [1, 4], [2, 3]])

    def test_six_stations(self):
        self.assertEqual(ask_behind(((0, 0, 1, 1),) * 6, STATE), [[6, 6]])

    def test_twice_in_a_row(self):
        self.assertEqual(ask_behind(THREE, STATE, STATE), [[3, 3]] * 2)


if __name__ == "__main__":
    unittest.main()
