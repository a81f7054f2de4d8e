"""Terms: sums of names times integers, and a constant."""

from outofwishes.errors import BadNumber, BadNumbers, BadTerm, BadTerms
from outofwishes.kinds import is_list, is_numbers, is_numbers_with, is_whole


def is_term(thing):
    """Whether any object is a term."""
    return is_list(thing) and len(thing) == 2 and is_numbers(thing[0]) and is_whole(thing[1])


def bad_term_at(terms):
    """The index of the first thing that is no term; 0 for no list, None if all are terms."""
    if not is_list(terms):
        return 0
    for index, term in enumerate(terms):
        if not is_term(term):
            return index
    return None


def names_of(term):
    """The ascending names with a coefficient other than 0."""
    coefficients = term[0]
    return sorted([name for name in coefficients if coefficients[name] != 0])


def told_term(term):
    """The told form of a term: new, by ascending names, without coefficients 0."""
    return ({name: term[0][name] for name in names_of(term)}, term[1])


def sum_of(terms):
    """Terms added up, told."""
    coefficients = {}
    constant = 0
    for term in terms:
        constant = constant + term[1]
        for name in term[0]:
            coefficients[name] = coefficients.get(name, 0) + term[0][name]
    return told_term((coefficients, constant))


def scaled(term, number):
    """A term times an integer, told."""
    return told_term(({name: number * term[0][name] for name in term[0]}, number * term[1]))


def turned(term):
    """A term times -1, told."""
    return scaled(term, -1)


def less(term, number):
    """A term, its constant less a number, told."""
    return told_term((term[0], term[1] - number))


def change_along(term, ray):
    """By how much a term changes along a ray that lacks none of its names."""
    return sum([term[0][name] * ray[name] for name in names_of(term)])


def value_of(term, numbers):
    """What a term comes to at numbers that lack none of its names."""
    return term[1] + change_along(term, numbers)


def tidy(term):
    """The told form of a term."""
    if not is_term(term):
        raise BadTerm(term)
    return told_term(term)


def added(terms):
    """All terms of a list, perhaps empty, added up."""
    index = bad_term_at(terms)
    if index is not None:
        raise BadTerms(index)
    return sum_of(terms)


def times(term, number):
    """A term times an integer."""
    if not is_term(term):
        raise BadTerm(term)
    if not is_whole(number):
        raise BadNumber(number)
    return scaled(term, number)


def term_at(term, numbers):
    """What a term comes to; wanted are numbers for all names with a coefficient other than 0."""
    if not is_term(term):
        raise BadTerm(term)
    if not is_numbers_with(numbers, names_of(term)):
        raise BadNumbers(numbers)
    return value_of(term, numbers)
