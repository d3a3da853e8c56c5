"""What the tests share: calls by name, a line of them, and signals reckoned by time and place alone."""

from fractions import Fraction

from stationsignals.stations import answers

BEGIN = (0,)
LEAST = -2147483648
GREATEST = 2147483647
GREATEST_UNSIGNED = 4294967295


def station(t, x, p, q):
    return (1, t, x, p, q)


def drop(i):
    return (2, i)


def move(i, p, q):
    return (3, i, p, q)


def put(i, t, x):
    return (4, i, t, x)


def tell(i):
    return (5, i)


def at(i, n, d):
    return (6, i, n, d)


def send(i, j, n, d):
    return (7, i, j, n, d)


def echo(i, j, n, d):
    return (8, i, j, n, d)


def ticks(i, j, n, d):
    return (9, i, j, n, d)


def split(told):
    """The flat list of answers, as one list a call; fails where the counts don't fit."""
    found = []
    start = 0
    while start < len(told):
        behind = start + 1 + told[start]
        if told[start] < 1 or behind > len(told):
            raise AssertionError(f"a count doesn't fit at {start}: {told}")
        found.append(told[start + 1:behind])
        start = behind
    return found


def ask(*calls):
    """What is answered of each of the calls, a list each."""
    told = answers([number for call in calls for number in call])
    if type(told) is not list or any(type(number) is not int for number in told):
        raise AssertionError(f"not a list of whole numbers: {told}")
    found = split(told)
    if len(found) != len(calls):
        raise AssertionError(f"{len(calls)} calls, {len(found)} answers")
    return found


def ask_behind(stations, *calls):
    """What is answered of the calls, behind a begin and these stations."""
    return ask(BEGIN, *[station(*one) for one in stations], *calls)[1 + len(stations):]


def told(*numbers):
    """An answer that isn't a refusal: 0, then each as a fraction."""
    found = [0]
    for number in numbers:
        number = Fraction(number)
        found += [number.numerator, number.denominator]
    return found


def where(one, clock):
    """Time and place of a station (t, x, p, q) when its clock shows that, by its speed."""
    t, x, p, q = one
    speed = Fraction(p * p - q * q, p * p + q * q)
    time_gone = clock * Fraction(p * p + q * q, 2 * p * q)
    return t + time_gone, x + speed * time_gone


def comes(sender, hearer, clock):
    """When light comes, by the hearer's clock: where the way to it is as long as the time it takes."""
    time, place = where(sender, clock)
    start_time, start_place = where(hearer, Fraction(0))
    next_time, next_place = where(hearer, Fraction(1))
    for side in (1, -1):
        ahead = start_time - time - side * (start_place - place)
        gain = next_time - start_time - side * (next_place - start_place)
        shown = -ahead / gain
        its_time, its_place = where(hearer, shown)
        if its_time - time == abs(its_place - place):
            return shown
    raise AssertionError("light comes from neither side")
