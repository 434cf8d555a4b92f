"""Fractions, each an upper and a lower number above 0."""


def greatest_divisor(one, other):
    while other != 0:
        rest = one % other
        one = other
        other = rest
    return one


def least_terms(upper, lower):
    divisor = greatest_divisor(abs(upper), lower)
    return [upper // divisor, lower // divisor]
