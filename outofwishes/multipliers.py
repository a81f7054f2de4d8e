"""Fractions, and multipliers: one fraction for each test, by which the tests' terms are added up."""

from math import gcd, lcm

from outofwishes.bodies import term_of
from outofwishes.kinds import is_from_one, is_list, is_whole


def is_fraction(thing):
    """Whether any object is a fraction, in lowest terms or not."""
    return is_list(thing) and len(thing) == 2 and is_whole(thing[0]) and is_from_one(thing[1])


def lowest(top, bottom):
    """The fraction top / bottom in lowest terms; the bottom is not 0."""
    divisor = gcd(top, bottom)
    if bottom < 0:
        divisor = -divisor
    return (top // divisor, bottom // divisor)


def are_multipliers(thing, tests):
    """Whether any object is a list of fractions, one for each test."""
    return is_list(thing) and len(thing) == len(tests) and all([is_fraction(part) for part in thing])


def told_multipliers(fractions, marks):
    """The list of the fractions that stand under these marks; 0 where there is none."""
    return [fractions.get(mark, (0, 1)) for mark in marks]


def common_bottom(fractions):
    """The least common multiple of the bottoms."""
    bottom = 1
    for fraction in fractions:
        bottom = lcm(bottom, fraction[1])
    return bottom


def made(tests, multipliers):
    """What multipliers make of the tests' terms: coefficients other than 0 and a constant, all times a bottom."""
    bottom = common_bottom(multipliers)
    coefficients = {}
    constant = 0
    for test, multiplier in zip(tests, multipliers):
        times = multiplier[0] * (bottom // multiplier[1])
        if times != 0:
            term = term_of(test)
            constant += times * term[1]
            for name in term[0]:
                coefficients[name] = coefficients.get(name, 0) + times * term[0][name]
    return ({name: coefficients[name] for name in coefficients if coefficients[name] != 0}, constant, bottom)


def are_for_sums(tests, multipliers):
    """Whether multipliers are from 0 on for rows and 0 for bys; they are any for sames."""
    for test, multiplier in zip(tests, multipliers):
        if test[0] == "row" and multiplier[0] < 0:
            return False
        if test[0] == "by" and multiplier[0] != 0:
            return False
    return True


def are_for_gauges(tests, multipliers):
    """Whether multipliers are 0 for rows, and whole for bys if taken m times; they are any for sames."""
    for test, multiplier in zip(tests, multipliers):
        if test[0] == "row" and multiplier[0] != 0:
            return False
        if test[0] == "by" and (multiplier[0] * test[1]) % multiplier[1] != 0:
            return False
    return True


def make_below(tests, thing):
    """Whether any object is multipliers of a sum that has no name and is below 0."""
    if not are_multipliers(thing, tests) or not are_for_sums(tests, thing):
        return False
    coefficients, constant, _ = made(tests, thing)
    return len(coefficients) == 0 and constant < 0


def make_broken(tests, thing):
    """Whether any object is multipliers of a gauge: whole coefficients, and a constant that is not whole."""
    if not are_multipliers(thing, tests) or not are_for_gauges(tests, thing):
        return False
    coefficients, constant, bottom = made(tests, thing)
    return constant % bottom != 0 and all([coefficients[name] % bottom == 0 for name in coefficients])


def constant_beside(tests, thing, term):
    """The constant, as a fraction, that multipliers of a sum make beside a term's coefficients; None if they do not."""
    if not are_multipliers(thing, tests) or not are_for_sums(tests, thing):
        return None
    coefficients, constant, bottom = made(tests, thing)
    wanted = {name: term[0][name] * bottom for name in term[0] if term[0][name] != 0}
    if coefficients != wanted:
        return None
    return (constant, bottom)
