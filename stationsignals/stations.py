"""A line of calls on one new object, and what is answered of each."""

from stationsignals.board import Board
from stationsignals.changes import add_station, drop_station, move_station, set_station, take_last_back
from stationsignals.looks import (
    tell_closing, tell_echo, tell_hears, tell_meet, tell_own, tell_ownof, tell_relay, tell_round, tell_send,
    tell_state, tell_station, tell_ticks, tell_till, tell_where,
)
from stationsignals.refusals import NOT_BEGUN

BEGIN = 0
STATION = 1
DROP = 2
MOVE = 3
SET = 4
IS = 5
AT = 6
SEND = 7
ECHO = 8
TICKS = 9
HEARS = 10
TILL = 11
OWN = 12
OWNOF = 13
MEET = 14
RELAY = 15
ROUND = 16
CLOSING = 17
BACK = 18
STATE = 19

# How many numbers stand behind each call's own, by that; of relay and round those ahead of the row,
# the row's count among them.
GIVEN = (0, 4, 1, 3, 3, 1, 3, 4, 4, 4, 3, 3, 3, 4, 2, 3, 3, 2, 0, 0)


# A call's length is known ahead of its answer: one that is refused is passed over all the same.
def call_length(calls, start):
    number = calls[start]
    length = 1 + GIVEN[number]
    if number == RELAY or number == ROUND:
        return length + calls[start + 3]
    return length


def change(board, number, given):
    if number == STATION:
        return add_station(board, given[0], given[1], given[2], given[3])
    if number == DROP:
        return drop_station(board, given[0])
    if number == MOVE:
        return move_station(board, given[0], given[1], given[2])
    if number == SET:
        return set_station(board, given[0], given[1], given[2])
    return take_last_back(board)


def look_at_one(board, number, given):
    if number == IS:
        return tell_station(board, given[0])
    if number == AT:
        return tell_where(board, given[0], given[1], given[2])
    if number == HEARS:
        return tell_hears(board, given[0], given[1], given[2])
    if number == TILL:
        return tell_till(board, given[0], given[1], given[2])
    return tell_own(board, given[0], given[1], given[2])


def look_at_two(board, number, given):
    if number == SEND:
        return tell_send(board, given[0], given[1], given[2], given[3])
    if number == ECHO:
        return tell_echo(board, given[0], given[1], given[2], given[3])
    if number == TICKS:
        return tell_ticks(board, given[0], given[1], given[2], given[3])
    if number == OWNOF:
        return tell_ownof(board, given[0], given[1], given[2], given[3])
    if number == MEET:
        return tell_meet(board, given[0], given[1])
    return tell_closing(board, given[0], given[1])


# The row stands behind n, d and how many numbers it has.
def look_along_row(board, number, given):
    row = given[3:]
    if number == RELAY:
        return tell_relay(board, row, given[0], given[1])
    return tell_round(board, row, given[0], given[1])


def answer(board, number, given):
    if number == BEGIN:
        board.begin()
        return [0]
    if not board.begun:
        return [NOT_BEGUN]
    if number in (STATION, DROP, MOVE, SET, BACK):
        return change(board, number, given)
    if number in (IS, AT, HEARS, TILL, OWN):
        return look_at_one(board, number, given)
    if number in (RELAY, ROUND):
        return look_along_row(board, number, given)
    if number == STATE:
        return tell_state(board)
    return look_at_two(board, number, given)


def answers(calls):
    board = Board()
    told = []
    start = 0
    while start < len(calls):
        behind = start + call_length(calls, start)
        one = answer(board, calls[start], calls[start + 1:behind])
        told.append(len(one))
        told.extend(one)
        start = behind
    return told
