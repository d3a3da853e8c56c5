"""Fractions: tuples of two whole numbers with nothing in common, the second 1 or more."""


# Neither is below 0, and b is above it: so the answer is 1 or more, and can be divided by.
def greatest_common(a, b):
    while a > 0:
        rest = b % a
        b = a
        a = rest
    return b


# lower is 1 or more: all that is divided by here is a factor's part or a fraction's second number.
def ratio(upper, lower):
    shared = greatest_common(abs(upper), lower)
    return (upper // shared, lower // shared)


def plus(a, b):
    return ratio(a[0] * b[1] + b[0] * a[1], a[1] * b[1])


def minus(a, b):
    return ratio(a[0] * b[1] - b[0] * a[1], a[1] * b[1])


def scaled(a, p, q):
    return ratio(a[0] * p, a[1] * q)


def greater(a, b):
    if a[0] * b[1] < b[0] * a[1]:
        return b
    return a
