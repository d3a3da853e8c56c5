"""The calls that look and change nothing. Each answers a list: 0 and what is told, or a refusal."""

from stationsignals.light import arrival, place_of, point_at, time_of
from stationsignals.ratios import minus, plus, ratio
from stationsignals.refusals import NO_STATION, NONE_DUE, clock_refusal, is_station, sending_refusal


def tell_one(fraction):
    return [0, fraction[0], fraction[1]]


def tell_two(first, second):
    return [0, first[0], first[1], second[0], second[1]]


def tell_station(board, i):
    if not is_station(board, i):
        return [NO_STATION]
    station = board.stations[i]
    return [0, station.time, station.place, station.p, station.q]


def tell_where(board, i, n, d):
    refusal = clock_refusal(board, i, n, d)
    if refusal != NONE_DUE:
        return [refusal]
    point = point_at(board.stations[i], ratio(n, d))
    return tell_two(time_of(point), place_of(point))


def tell_send(board, i, j, n, d):
    refusal = sending_refusal(board, i, j, n, d)
    if refusal != NONE_DUE:
        return [refusal]
    return tell_one(arrival(board.stations[i], board.stations[j], ratio(n, d)))


def tell_echo(board, i, j, n, d):
    refusal = sending_refusal(board, i, j, n, d)
    if refusal != NONE_DUE:
        return [refusal]
    sender = board.stations[i]
    hearer = board.stations[j]
    came = arrival(sender, hearer, ratio(n, d))
    return tell_two(arrival(hearer, sender, came), came)


# Two sendings are told apart, and not one rate: where the two meet in between, each comes from
# another side.
def tell_ticks(board, i, j, n, d):
    refusal = sending_refusal(board, i, j, n, d)
    if refusal != NONE_DUE:
        return [refusal]
    sender = board.stations[i]
    hearer = board.stations[j]
    clock = ratio(n, d)
    first = arrival(sender, hearer, clock)
    second = arrival(sender, hearer, plus(clock, (1, 1)))
    return tell_one(minus(second, first))
