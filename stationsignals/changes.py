"""The calls that change the stations. Each answers a list: one number."""

from stationsignals.light import Station
from stationsignals.refusals import (
    NO_CHANGE, NO_STATION, OUT_OF_RANGE, TOO_MANY, is_factor, is_spot, is_station,
)

MOST_STATIONS = 6


def without(stations, i):
    return stations[:i] + stations[i + 1:]


def put_in_place(stations, i, station):
    return stations[:i] + (station,) + stations[i + 1:]


def add_station(board, t, x, p, q):
    if not is_spot(t, x) or not is_factor(p, q):
        return [OUT_OF_RANGE]
    number = len(board.stations)
    if number == MOST_STATIONS:
        return [TOO_MANY]
    board.change_to(board.stations + (Station(t, x, p, q),))
    return [number]


def drop_station(board, i):
    if not is_station(board, i):
        return [NO_STATION]
    board.change_to(without(board.stations, i))
    return [len(board.stations)]


def move_station(board, i, p, q):
    if not is_station(board, i):
        return [NO_STATION]
    if not is_factor(p, q):
        return [OUT_OF_RANGE]
    old = board.stations[i]
    board.change_to(put_in_place(board.stations, i, Station(old.time, old.place, p, q)))
    return [0]


def set_station(board, i, t, x):
    if not is_station(board, i):
        return [NO_STATION]
    if not is_spot(t, x):
        return [OUT_OF_RANGE]
    old = board.stations[i]
    board.change_to(put_in_place(board.stations, i, Station(t, x, old.p, old.q)))
    return [0]


def take_last_back(board):
    if len(board.past) == 0:
        return [NO_CHANGE]
    board.take_back()
    return [len(board.past)]
