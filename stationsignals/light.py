"""A station's way, and the light that comes to it.

A point is told here by two fractions, its time less place and its time and place together: along
light one of the two stays as it is, so each question of light is one about one of them.
"""

from stationsignals.ratios import greater, is_less, lesser, minus, over, plus, ratio, scaled

THERE = 0
ON_THE_RIGHT = 1
ON_THE_LEFT = 2


# A station is never changed once it is made: what is kept to be taken back may hold the same one.
class Station:
    def __init__(self, time, place, p, q):
        factor = ratio(p, q)
        self.time = time
        self.place = place
        self.p = factor[0]
        self.q = factor[1]


def spot_point(t, x):
    return ((t - x, 1), (t + x, 1))


def start_of(station):
    return spot_point(station.time, station.place)


def point_at(station, clock):
    start = start_of(station)
    less = plus(start[0], scaled(clock, station.q, station.p))
    together = plus(start[1], scaled(clock, station.p, station.q))
    return (less, together)


def time_of(point):
    return scaled(plus(point[1], point[0]), 1, 2)


def place_of(point):
    return scaled(minus(point[1], point[0]), 1, 2)


def clock_by_less(station, point):
    return scaled(minus(point[0], start_of(station)[0]), station.p, station.q)


def clock_by_together(station, point):
    return scaled(minus(point[1], start_of(station)[1]), station.q, station.p)


# Light from the left keeps the one number and light from the right the other: of both clocks the
# greater one is where light comes from the point, the lesser where it would go to it.
def heard(station, point):
    return greater(clock_by_less(station, point), clock_by_together(station, point))


def heard_of_till(station, point):
    return lesser(clock_by_less(station, point), clock_by_together(station, point))


def own_time(station, point):
    return scaled(plus(heard(station, point), heard_of_till(station, point)), 1, 2)


def own_place(station, point):
    return scaled(minus(heard(station, point), heard_of_till(station, point)), 1, 2)


def side_of(station, point):
    by_less = clock_by_less(station, point)
    by_together = clock_by_together(station, point)
    if is_less(by_less, by_together):
        return ON_THE_RIGHT
    if is_less(by_together, by_less):
        return ON_THE_LEFT
    return THERE


def arrival(sender, hearer, clock):
    return heard(hearer, point_at(sender, clock))


# Whoever comes twice in a row needs no case of its own: a station hears at once of where it is.
def arrival_along(row, clock):
    sender = row[0]
    for hearer in row[1:]:
        clock = arrival(sender, hearer, clock)
        sender = hearer
    return clock


def same_factor(one, other):
    return one.p == other.p and one.q == other.q


# The other's factor by the one's is squared, and told as two whole numbers, upper and lower.
def factor_squares(one, other):
    upper = other.p * one.q
    lower = other.q * one.p
    return (upper * upper, lower * lower)


def speed_of(one, other):
    squares = factor_squares(one, other)
    return ratio(squares[0] - squares[1], squares[0] + squares[1])


# While the other's clock goes on by c, its two numbers go on, by the one's clock, by c by k and by c
# times k. So at clock a, where they meet: k squared times (a less by_less) is a less by_together.
# The two have not the same factor, so k squared is not 1.
def meeting_clock(one, other):
    start = start_of(other)
    squares = factor_squares(one, other)
    by_less = scaled(clock_by_less(one, start), squares[0], 1)
    by_together = scaled(clock_by_together(one, start), squares[1], 1)
    return over(minus(by_less, by_together), squares[0] - squares[1])
