"""A station's way, and the light that comes to it.

A point is told here by two fractions, its time less place and its time and place together: along
light one of the two stays as it is, so each question of light is one about one of them.
"""

from stationsignals.ratios import greater, minus, plus, ratio, scaled


# A station is never changed once it is made: what is kept to be taken back may hold the same one.
class Station:
    def __init__(self, time, place, p, q):
        factor = ratio(p, q)
        self.time = time
        self.place = place
        self.p = factor[0]
        self.q = factor[1]


def start_less(station):
    return (station.time - station.place, 1)


def start_together(station):
    return (station.time + station.place, 1)


def point_at(station, clock):
    less = plus(start_less(station), scaled(clock, station.q, station.p))
    together = plus(start_together(station), scaled(clock, station.p, station.q))
    return (less, together)


def time_of(point):
    return scaled(plus(point[1], point[0]), 1, 2)


def place_of(point):
    return scaled(minus(point[1], point[0]), 1, 2)


def clock_by_less(station, point):
    return scaled(minus(point[0], start_less(station)), station.p, station.q)


def clock_by_together(station, point):
    return scaled(minus(point[1], start_together(station)), station.q, station.p)


# Light from the left keeps the one number and light from the right the other: of both clocks the
# greater one is where light comes from the point, the lesser where it would go to it.
def heard(station, point):
    return greater(clock_by_less(station, point), clock_by_together(station, point))


def arrival(sender, hearer, clock):
    return heard(hearer, point_at(sender, clock))
