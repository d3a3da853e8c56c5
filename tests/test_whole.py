"""Whole lines of all calls, held against a model: all calls once more, by speeds, times and places."""

import unittest
from fractions import Fraction
from random import Random

from tests.line import (
    GREATEST, GREATEST_IN_ROW, GREATEST_UNSIGNED, LEAST, ask, can_be_heard_of_till, comes, comes_along, hears_of,
    meeting, own_answer, speed_told, told, where,
)

EDGES = {
    "i": (0, 0, 1, 1, 2, 2, 3, 4, 5, 5, 6, GREATEST_UNSIGNED),
    "t": (-100, -99, -98, -5, -1, 0, 0, 1, 5, 12, 98, 99, 100, LEAST, GREATEST),
    "p": (0, 1, 1, 2, 2, 3, 4, 5, 6, 7, 8, 9, 9, 10, GREATEST_UNSIGNED),
    "n": (-1000, -999, -998, -50, -5, -1, 0, 1, 7, 12, 300, 998, 999, 1000, LEAST, GREATEST),
    "d": (0, 1, 1, 1, 2, 3, 12, 50, 98, 99, 100, GREATEST_UNSIGNED),
}
INSIDE = {
    "i": (0, 1, 2, 3, 4, 5), "t": tuple(range(-99, 100)), "p": tuple(range(1, 10)), "n": tuple(range(-999, 1000)),
    "d": tuple(range(1, 100)),
}
KINDS = (
    "", "ttpp", "i", "ipp", "itt", "i", "ind", "iind", "iind", "iind", "itt", "itt", "itt", "iind", "ii", "nd", "nd",
    "ii", "", "")
# A begin seldom, station often: or there is hardly ever something to look at.
NUMBERS = (0, 1, 1, 1, 1, 1, 1, 2, 3, 4, 18, 19, 18) + tuple(range(5, 18)) * 2


def spot(t, x):
    return abs(t) <= 99 and abs(x) <= 99


def factor(p, q):
    return p in range(1, 10) and q in range(1, 10)


def clock(n, d):
    return abs(n) <= 999 and d in range(1, 100)


class Model:
    """One object; answer takes a call as the tests write it."""

    def __init__(self):
        self.stations = None
        self.past = []

    def answer(self, call):
        number, *given = call
        if number == 0:
            self.stations, self.past = [], []
            return [0]
        if self.stations is None:
            return [-11]
        if number == 18:
            return self.back()
        if number == 19:
            return [len(self.stations), len(self.past)]
        if number == 1:
            return self.station(*given)
        if number in (15, 16):
            return self.row(number, given[0], given[1], given[3:])
        two = number in (7, 8, 9, 13, 14, 17)
        named = given[:2] if two else given[:1]
        if any(i >= len(self.stations) for i in named):
            return [-2]
        if two and number != 13 and named[0] == named[1]:
            return [-22]
        return self.of_named(number, *given)

    def changed(self, stations, answer):
        self.past = (self.past + [self.stations])[-10:]
        self.stations = stations
        return [answer]

    def back(self):
        if not self.past:
            return [-6]
        self.stations = self.past.pop()
        return [len(self.past)]

    def station(self, t, x, p, q):
        if not (spot(t, x) and factor(p, q)):
            return [-22]
        if len(self.stations) == 6:
            return [-28]
        return self.changed(self.stations + [(t, x, p, q)], len(self.stations))

    def row(self, number, n, d, row):
        if any(i >= len(self.stations) for i in row):
            return [-2]
        if not 2 <= len(row) <= 6 or not clock(n, d):
            return [-22]
        ways = [self.stations[i] for i in (row if number == 15 else row + row[:1])]
        return told(comes_along(ways, Fraction(n, d)))

    def of_named(self, number, i, *given):
        one = self.stations[i]
        if number == 2:
            return self.changed(self.stations[:i] + self.stations[i + 1:], len(self.stations) - 1)
        if number == 3 or number == 4:
            if not (factor if number == 3 else spot)(*given):
                return [-22]
            other = (*one[:2], *given) if number == 3 else (*given, *one[2:])
            return self.changed(self.stations[:i] + [other] + self.stations[i + 1:], 0)
        if number == 5:
            shared = Fraction(one[2], one[3])
            return [0, one[0], one[1], shared.numerator, shared.denominator]
        if number in (10, 11, 12):
            if not spot(*given):
                return [-22]
            if number == 12:
                return own_answer(one, *given)
            return told((hears_of if number == 10 else can_be_heard_of_till)(*given, one))
        return self.by_clock(number, one, *given)

    def by_clock(self, number, one, *given):
        if number in (14, 17):
            other = self.stations[given[0]]
            if number == 17:
                return told(speed_told(one, other))
            if one[2] * other[3] == one[3] * other[2]:
                return [-33]
            return told(*meeting(one, other))
        if not clock(*given[-2:]):
            return [-22]
        shown = Fraction(*given[-2:])
        if number == 6:
            return told(*where(one, shown))
        other = self.stations[given[0]]
        if number == 13:
            return own_answer(one, *where(other, shown))
        came = comes(one, other, shown)
        if number == 7:
            return told(came)
        if number == 8:
            return told(comes(other, one, came), came)
        return told(comes(one, other, shown + 1) - came)


class WholeTest(unittest.TestCase):
    def row(self, source, edgy):
        count = source.choice((0, 1, 2, 3, 4, 5, 6, 7, 11, 12) if edgy else (2, 3, 4, 5, 6))
        most = source.choice((0, 1, 2, 3, 5, 6, GREATEST_IN_ROW))
        return [source.choice((most, 0, 1, 2)) if edgy else source.randrange(4) for step in range(count)]

    def call(self, source, number):
        edgy = source.random() < 0.3
        values = EDGES if edgy else INSIDE
        given = [source.choice(values[kind]) for kind in KINDS[number]]
        if number in (15, 16):
            row = self.row(source, edgy)
            given += [len(row), *row]
        return (number, *given)

    def line(self, source):
        ahead = [self.call(source, source.choice(NUMBERS)) for step in range(source.randrange(3))]
        stations = [self.call(source, 1) for step in range(source.randrange(8))]
        calls = ahead + [(0,)] + stations
        while len(calls) < 256:
            calls.append(self.call(source, source.choice(NUMBERS)))
        return calls

    def test_lines_of_256_calls(self):
        seen = set()
        for seed in range(40):
            calls = self.line(Random(seed))
            model = Model()
            found = ask(*calls)
            for call, one in zip(calls, found):
                self.assertEqual(one, model.answer(call), (seed, call))
                seen.add((call[0], min(one[0], 0)))
        self.assertEqual({number for number, refusal in seen if refusal == 0}, set(range(20)))
        self.assertEqual({refusal for number, refusal in seen}, {0, -2, -6, -11, -22, -28, -33})

    def test_short_lines(self):
        for seed in range(1000, 1300):
            source = Random(seed)
            calls = self.line(source)[:source.randrange(1, 12)]
            model = Model()
            self.assertEqual(ask(*calls), [model.answer(call) for call in calls], seed)


if __name__ == "__main__":
    unittest.main()
