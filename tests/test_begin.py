"""Promise 1, of begin: no stations, 0; ahead of one every other call answers -11."""

import unittest

from tests.line import BEGIN, ask, at, drop, echo, move, put, send, station, tell, ticks

OTHERS = (
    station(0, 0, 1, 1), drop(0), move(0, 1, 1), put(0, 0, 0), tell(0), at(0, 0, 1), send(0, 1, 0, 1),
    echo(0, 1, 0, 1), ticks(0, 1, 0, 1), (10, 0, 0, 0), (11, 0, 0, 0), (12, 0, 0, 0), (13, 0, 1, 0, 1),
    (14, 0, 1), (15, 0, 1, 0), (15, 0, 1, 2, 0, 1), (15, 0, 1, 12) + (0,) * 12, (16, 0, 1, 0),
    (16, 0, 1, 3, 0, 1, 0), (16, 0, 1, 12) + (65535,) * 12, (17, 0, 1), (18,), (19,),
)


class BeginTest(unittest.TestCase):
    def test_begin_answers_0(self):
        self.assertEqual(ask(BEGIN), [[0]])

    def test_ahead_of_begin_every_other_call_is_refused(self):
        for call in OTHERS:
            with self.subTest(call=call):
                self.assertEqual(ask(call), [[-11]])

    def test_ahead_of_begin_arguments_are_not_looked_at(self):
        self.assertEqual(ask(station(100, 0, 0, 0), drop(9), at(9, 0, 0), send(0, 0, 0, 0)), [[-11]] * 4)

    def test_many_refused_one_behind_another_and_then_a_begin(self):
        found = ask(*OTHERS, BEGIN, station(1, 2, 3, 4), tell(0))
        self.assertEqual(found, [[-11]] * len(OTHERS) + [[0], [0], [0, 1, 2, 3, 4]])

    def test_a_station_told_ahead_of_begin_is_not_there_behind_it(self):
        self.assertEqual(ask(station(0, 0, 1, 1), BEGIN, tell(0)), [[-11], [0], [-2]])

    def test_behind_begin_there_are_no_stations(self):
        found = ask(BEGIN, tell(0), drop(0), move(0, 1, 1), put(0, 0, 0), at(0, 0, 1))
        self.assertEqual(found, [[0]] + [[-2]] * 5)

    def test_begin_may_come_again_and_empties_what_was_there(self):
        found = ask(
            BEGIN, station(1, 2, 3, 4), station(0, 0, 1, 1), BEGIN, tell(0), station(5, 6, 7, 8), tell(0), tell(1))
        self.assertEqual(found, [[0], [0], [1], [0], [-2], [0], [0, 5, 6, 7, 8], [-2]])

    def test_begin_empties_six_stations_too(self):
        six = [station(k, 0, 1, 1) for k in range(6)]
        found = ask(BEGIN, *six, BEGIN, *six)
        self.assertEqual(found, [[0], [0], [1], [2], [3], [4], [5]] * 2)

    def test_begin_twice_in_a_row(self):
        self.assertEqual(ask(BEGIN, BEGIN, station(0, 0, 1, 1)), [[0], [0], [0]])


if __name__ == "__main__":
    unittest.main()
