"""A line of calls on one new object, and what is answered of each."""

from stationsignals.board import Board
from stationsignals.changes import add_station, drop_station, move_station, set_station
from stationsignals.looks import tell_echo, tell_send, tell_station, tell_ticks, tell_where
from stationsignals.refusals import NOT_BEGUN

BEGIN = 0
STATION = 1
DROP = 2
MOVE = 3
SET = 4
IS = 5
AT = 6
SEND = 7
ECHO = 8
TICKS = 9
RELAY = 15
ROUND = 16

# How many numbers stand behind each call's own, by that; of relay and round those ahead of the row,
# the row's count among them.
GIVEN = (0, 4, 1, 3, 3, 1, 3, 4, 4, 4, 3, 3, 3, 4, 2, 3, 3, 2, 0, 0)


# A call's length is known ahead of its answer: one that is refused is passed over all the same.
def call_length(calls, start):
    number = calls[start]
    length = 1 + GIVEN[number]
    if number == RELAY or number == ROUND:
        return length + calls[start + 3]
    return length


def change(board, number, given):
    if number == STATION:
        return add_station(board, given[0], given[1], given[2], given[3])
    if number == DROP:
        return drop_station(board, given[0])
    if number == MOVE:
        return move_station(board, given[0], given[1], given[2])
    return set_station(board, given[0], given[1], given[2])


def look(board, number, given):
    if number == IS:
        return tell_station(board, given[0])
    if number == AT:
        return tell_where(board, given[0], given[1], given[2])
    if number == SEND:
        return tell_send(board, given[0], given[1], given[2], given[3])
    if number == ECHO:
        return tell_echo(board, given[0], given[1], given[2], given[3])
    if number == TICKS:
        return tell_ticks(board, given[0], given[1], given[2], given[3])
    raise NotImplementedError("this call is not built yet")


def answer(board, number, given):
    if number == BEGIN:
        board.begin()
        return [0]
    if not board.begun:
        return [NOT_BEGUN]
    if STATION <= number <= SET:
        return change(board, number, given)
    return look(board, number, given)


def answers(calls):
    board = Board()
    told = []
    start = 0
    while start < len(calls):
        behind = start + call_length(calls, start)
        one = answer(board, calls[start], calls[start + 1:behind])
        told.append(len(one))
        told.extend(one)
        start = behind
    return told
