"""Fractions as pairs of whole numbers, none below 0."""


def greatest_divisor(first, second):
    while second > 0:
        rest = first % second
        first = second
        second = rest
    return first


# Zero comes out as 0, 1, since the greatest divisor of 0 and a number is that number.
def lowest_terms(top, bottom):
    divisor = greatest_divisor(top, bottom)
    return (top // divisor, bottom // divisor)
