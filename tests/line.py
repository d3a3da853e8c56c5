"""What the tests share: calls by name, a line of them, and signals reckoned by time and place alone."""

from fractions import Fraction

from stationsignals.stations import answers

BEGIN = (0,)
BACK = (18,)
STATE = (19,)
LEAST = -2147483648
GREATEST = 2147483647
GREATEST_UNSIGNED = 4294967295
GREATEST_IN_ROW = 65535


def station(t, x, p, q):
    return (1, t, x, p, q)


def drop(i):
    return (2, i)


def move(i, p, q):
    return (3, i, p, q)


def put(i, t, x):
    return (4, i, t, x)


def tell(i):
    return (5, i)


def at(i, n, d):
    return (6, i, n, d)


def send(i, j, n, d):
    return (7, i, j, n, d)


def echo(i, j, n, d):
    return (8, i, j, n, d)


def ticks(i, j, n, d):
    return (9, i, j, n, d)


def hears(i, t, x):
    return (10, i, t, x)


def till(i, t, x):
    return (11, i, t, x)


def own(i, t, x):
    return (12, i, t, x)


def ownof(i, j, n, d):
    return (13, i, j, n, d)


def meet(i, j):
    return (14, i, j)


def relay(row, n, d):
    return (15, n, d, len(row), *row)


def go_round(row, n, d):
    return (16, n, d, len(row), *row)


def closing(i, j):
    return (17, i, j)


def split(told):
    """The flat list of answers, as one list a call; fails where the counts don't fit."""
    found = []
    start = 0
    while start < len(told):
        behind = start + 1 + told[start]
        if told[start] < 1 or behind > len(told):
            raise AssertionError(f"a count doesn't fit at {start}: {told}")
        found.append(told[start + 1:behind])
        start = behind
    return found


def ask(*calls):
    """What is answered of each of the calls, a list each."""
    told = answers([number for call in calls for number in call])
    if type(told) is not list or any(type(number) is not int for number in told):
        raise AssertionError(f"not a list of whole numbers: {told}")
    found = split(told)
    if len(found) != len(calls):
        raise AssertionError(f"{len(calls)} calls, {len(found)} answers")
    return found


def ask_behind(stations, *calls):
    """What is answered of the calls, behind a begin and these stations."""
    return ask(BEGIN, *[station(*one) for one in stations], *calls)[1 + len(stations):]


def told(*numbers, first=0):
    """An answer that isn't a refusal: 0 (or the side), then each as a fraction."""
    found = [first]
    for number in numbers:
        number = Fraction(number)
        found += [number.numerator, number.denominator]
    return found


def fractions(one):
    """What an answer tells behind its first number, where all of it is fractions."""
    return [Fraction(upper, lower) for upper, lower in zip(one[1::2], one[2::2])]


def speed(one):
    t, x, p, q = one
    return Fraction(p * p - q * q, p * p + q * q)


def slower(one):
    """How much time goes by while the clock of a station (t, x, p, q) goes on by 1."""
    t, x, p, q = one
    return Fraction(p * p + q * q, 2 * p * q)


def where(one, clock):
    """Time and place of a station (t, x, p, q) when its clock shows that, by its speed."""
    t, x, p, q = one
    time_gone = clock * slower(one)
    return t + time_gone, x + speed(one) * time_gone


def light_meets(time, place, one, ahead):
    """What its clock shows where light from the point comes to it (ahead 1), or goes from it to the point (-1)."""
    start_time, start_place = where(one, Fraction(0))
    next_time, next_place = where(one, Fraction(1))
    for side in (1, -1):
        lead = start_time - time - side * (start_place - place)
        gain = next_time - start_time - side * (next_place - start_place)
        shown = -lead / gain
        its_time, its_place = where(one, shown)
        if ahead * (its_time - time) == abs(its_place - place):
            return shown
    raise AssertionError("light comes from neither side")


def hears_of(time, place, hearer):
    return light_meets(time, place, hearer, 1)


def can_be_heard_of_till(time, place, sender):
    return light_meets(time, place, sender, -1)


def comes(sender, hearer, clock):
    """When light comes, by the hearer's clock: where the way to it is as long as the time it takes."""
    return hears_of(*where(sender, clock), hearer)


def comes_along(stations, clock):
    for sender, hearer in zip(stations, stations[1:]):
        clock = comes(sender, hearer, clock)
    return clock


def own_answer(one, time, place):
    """What own is to answer, by how time and place turn for one that moves with a speed."""
    t, x, p, q = one
    time, place = time - t, place - x
    its_time = slower(one) * (time - speed(one) * place)
    its_place = slower(one) * (place - speed(one) * time)
    side = 0 if its_place == 0 else 1 if its_place > 0 else 2
    return told(its_time, abs(its_place), first=side)


def speed_told(one, other):
    """The other's speed as the one tells it, by how speeds add up."""
    return (speed(other) - speed(one)) / (1 - speed(other) * speed(one))


def meeting(one, other):
    """What both clocks show where the two are at one time and place, by the places they have at one time."""
    lead = other[1] - speed(other) * other[0] - one[1] + speed(one) * one[0]
    time = lead / (speed(one) - speed(other))
    return (time - one[0]) / slower(one), (time - other[0]) / slower(other)
