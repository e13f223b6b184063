"""Fractions as pairs of whole numbers in lowest terms, none below 0; zero is 0, 1."""


def greatest_divisor(first, second):
    while second > 0:
        rest = first % second
        first = second
        second = rest
    return first


# Zero comes out as 0, 1, since the greatest divisor of 0 and a number is that number.
def lowest_terms(top, bottom):
    divisor = greatest_divisor(top, bottom)
    return (top // divisor, bottom // divisor)


def is_less(first, second):
    return first[0] * second[1] < second[0] * first[1]


# What the bottoms have in common is all that the sum can have in common with its bottom:
# that is looked for in numbers that are far shorter than the sum's.
def plus(first, second):
    first_top, first_bottom = first
    second_top, second_bottom = second
    common = greatest_divisor(first_bottom, second_bottom)
    first_part = first_bottom // common
    top = first_top * (second_bottom // common) + second_top * first_part
    divisor = greatest_divisor(top, common)
    return (top // divisor, first_part * (second_bottom // divisor))


def total(fractions):
    found = (0, 1)
    for fraction in fractions:
        found = plus(found, fraction)
    return found


# Each top can have something in common with the other bottom alone.
def times(first, second):
    first_top, second_bottom = lowest_terms(first[0], second[1])
    second_top, first_bottom = lowest_terms(second[0], first[1])
    return (first_top * second_top, first_bottom * second_bottom)


def product(fractions):
    found = (1, 1)
    for fraction in fractions:
        found = times(found, fraction)
    return found


# For a second fraction that is above 0.
def over(first, second):
    return times(first, (second[1], second[0]))


# For a fraction of at most 1.
def rest_to_one(fraction):
    return (fraction[1] - fraction[0], fraction[1])


# A power of a fraction in lowest terms is in lowest terms.
def power(fraction, exponent):
    top = 1
    bottom = 1
    for step in range(exponent):
        top = top * fraction[0]
        bottom = bottom * fraction[1]
    return (top, bottom)
