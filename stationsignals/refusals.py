"""The refusals' numbers, and what is asked of arguments before a call is carried out."""

NO_STATION = -2
NO_CHANGE = -6
NOT_BEGUN = -11
OUT_OF_RANGE = -22
TOO_MANY = -28
THERE_IS_NONE = -33

LEAST_ROW = 2
MOST_ROW = 6

# No refusal is due.
NONE_DUE = 0


def is_station(board, i):
    return i < len(board.stations)


def is_spot(t, x):
    return -99 <= t <= 99 and -99 <= x <= 99


def is_factor(p, q):
    return 1 <= p <= 9 and 1 <= q <= 9


def is_clock(n, d):
    return -999 <= n <= 999 and 1 <= d <= 99


def clock_refusal(board, i, n, d):
    if not is_station(board, i):
        return NO_STATION
    if not is_clock(n, d):
        return OUT_OF_RANGE
    return NONE_DUE


def spot_refusal(board, i, t, x):
    if not is_station(board, i):
        return NO_STATION
    if not is_spot(t, x):
        return OUT_OF_RANGE
    return NONE_DUE


def pair_refusal(board, i, j):
    if not is_station(board, i) or not is_station(board, j):
        return NO_STATION
    if i == j:
        return OUT_OF_RANGE
    return NONE_DUE


def sending_refusal(board, i, j, n, d):
    refusal = pair_refusal(board, i, j)
    if refusal == NONE_DUE and not is_clock(n, d):
        return OUT_OF_RANGE
    return refusal


# All of the row is looked at ahead of how long it is: no such station is the refusal told first.
def row_refusal(board, row, n, d):
    for i in row:
        if not is_station(board, i):
            return NO_STATION
    if len(row) < LEAST_ROW or len(row) > MOST_ROW or not is_clock(n, d):
        return OUT_OF_RANGE
    return NONE_DUE
