"""The calls that look and change nothing. Each answers a list: a number and what is told, or a refusal."""

from stationsignals.light import (
    arrival, arrival_along, heard, heard_of_till, meeting_clock, own_place, own_time, place_of, point_at,
    same_factor, side_of, speed_of, spot_point, time_of,
)
from stationsignals.ratios import minus, plus, ratio
from stationsignals.refusals import (
    NO_STATION, NONE_DUE, THERE_IS_NONE, clock_refusal, is_station, pair_refusal, row_refusal, sending_refusal,
    spot_refusal,
)


def tell_one(fraction):
    return [0, fraction[0], fraction[1]]


def tell_two(number, first, second):
    return [number, first[0], first[1], second[0], second[1]]


def tell_state(board):
    return [len(board.stations), len(board.past)]


def tell_station(board, i):
    if not is_station(board, i):
        return [NO_STATION]
    station = board.stations[i]
    return [0, station.time, station.place, station.p, station.q]


def tell_where(board, i, n, d):
    refusal = clock_refusal(board, i, n, d)
    if refusal != NONE_DUE:
        return [refusal]
    point = point_at(board.stations[i], ratio(n, d))
    return tell_two(0, time_of(point), place_of(point))


def tell_hears(board, i, t, x):
    refusal = spot_refusal(board, i, t, x)
    if refusal != NONE_DUE:
        return [refusal]
    return tell_one(heard(board.stations[i], spot_point(t, x)))


def tell_till(board, i, t, x):
    refusal = spot_refusal(board, i, t, x)
    if refusal != NONE_DUE:
        return [refusal]
    return tell_one(heard_of_till(board.stations[i], spot_point(t, x)))


def tell_own_of_point(station, point):
    return tell_two(side_of(station, point), own_time(station, point), own_place(station, point))


def tell_own(board, i, t, x):
    refusal = spot_refusal(board, i, t, x)
    if refusal != NONE_DUE:
        return [refusal]
    return tell_own_of_point(board.stations[i], spot_point(t, x))


def tell_send(board, i, j, n, d):
    refusal = sending_refusal(board, i, j, n, d)
    if refusal != NONE_DUE:
        return [refusal]
    return tell_one(arrival(board.stations[i], board.stations[j], ratio(n, d)))


def tell_echo(board, i, j, n, d):
    refusal = sending_refusal(board, i, j, n, d)
    if refusal != NONE_DUE:
        return [refusal]
    sender = board.stations[i]
    hearer = board.stations[j]
    came = arrival(sender, hearer, ratio(n, d))
    return tell_two(0, arrival(hearer, sender, came), came)


# Two sendings are told apart, and not one rate: where the two meet in between, each comes from
# another side.
def tell_ticks(board, i, j, n, d):
    refusal = sending_refusal(board, i, j, n, d)
    if refusal != NONE_DUE:
        return [refusal]
    sender = board.stations[i]
    hearer = board.stations[j]
    clock = ratio(n, d)
    first = arrival(sender, hearer, clock)
    second = arrival(sender, hearer, plus(clock, (1, 1)))
    return tell_one(minus(second, first))


# Of the calls that tell two stations this one alone takes the same one twice.
def tell_ownof(board, i, j, n, d):
    if not is_station(board, i):
        return [NO_STATION]
    refusal = clock_refusal(board, j, n, d)
    if refusal != NONE_DUE:
        return [refusal]
    return tell_own_of_point(board.stations[i], point_at(board.stations[j], ratio(n, d)))


def tell_closing(board, i, j):
    refusal = pair_refusal(board, i, j)
    if refusal != NONE_DUE:
        return [refusal]
    return tell_one(speed_of(board.stations[i], board.stations[j]))


# Light sent where both are comes at once: so the other's clock is what it shows when it comes.
def tell_meet(board, i, j):
    refusal = pair_refusal(board, i, j)
    if refusal != NONE_DUE:
        return [refusal]
    one = board.stations[i]
    other = board.stations[j]
    if same_factor(one, other):
        return [THERE_IS_NONE]
    clock = meeting_clock(one, other)
    return tell_two(0, clock, arrival(one, other, clock))


def tell_relay(board, row, n, d):
    refusal = row_refusal(board, row, n, d)
    if refusal != NONE_DUE:
        return [refusal]
    return tell_one(arrival_along([board.stations[i] for i in row], ratio(n, d)))


def tell_round(board, row, n, d):
    refusal = row_refusal(board, row, n, d)
    if refusal != NONE_DUE:
        return [refusal]
    there_and_back = row + [row[0]]
    return tell_one(arrival_along([board.stations[i] for i in there_and_back], ratio(n, d)))
