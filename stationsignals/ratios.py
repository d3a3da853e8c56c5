"""Fractions: tuples of two whole numbers with nothing in common, the second 1 or more."""


# Neither is below 0, and b is above it: so the answer is 1 or more, and can be divided by.
def greatest_common(a, b):
    while a > 0:
        rest = b % a
        b = a
        a = rest
    return b


# lower is 1 or more: what is divided by is a factor's part, a sum of squares, or made so by over.
def ratio(upper, lower):
    shared = greatest_common(abs(upper), lower)
    return (upper // shared, lower // shared)


def plus(a, b):
    return ratio(a[0] * b[1] + b[0] * a[1], a[1] * b[1])


def minus(a, b):
    return ratio(a[0] * b[1] - b[0] * a[1], a[1] * b[1])


def scaled(a, p, q):
    return ratio(a[0] * p, a[1] * q)


# The whole number may be below 0, not 0: the sign goes to the upper number.
def over(a, whole):
    if whole < 0:
        return ratio(-a[0], a[1] * -whole)
    return ratio(a[0], a[1] * whole)


def is_less(a, b):
    return a[0] * b[1] < b[0] * a[1]


def greater(a, b):
    if is_less(a, b):
        return b
    return a


def lesser(a, b):
    if is_less(b, a):
        return b
    return a
