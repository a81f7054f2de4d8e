"""Rows and sames over fractions: a loose point or a sum, the least of a term, quarrels."""

from outofwishes.bodies import term_of
from outofwishes.errors import NotLoose
from outofwishes.flats import flat
from outofwishes.kinds import is_list, is_numbers_of
from outofwishes.multipliers import constant_beside, is_fraction, lowest, make_below, told_multipliers
from outofwishes.tableaus import tableau_of
from outofwishes.terms import change_along, names_of
from outofwishes.vectors import facts_of, numbers_of, vector_of
from outofwishes.wishes import check_term


def _loose_tests(system):
    """The flat system's tests, of a system of rows and sames alone."""
    tests, anys = flat(system)
    for index, test in enumerate(tests):
        if test[0] == "by":
            raise NotLoose(index)
    if len(anys) > 0:
        raise NotLoose(len(tests))
    return tests


def _settled(tests, names):
    """The pair of a tableau of tests and None, or None and multipliers of a sum below 0."""
    return tableau_of(facts_of(tests, names), len(names))


def _told_spot(tableau, names):
    """The loose point at which a tableau stands, told."""
    tops, bottom = tableau.spot()
    found = {name: lowest(top, bottom) for name, top in zip(names, tops)}
    return {name: found[name] for name in sorted(names)}


def _value_at(term, point):
    """What a term comes to at a loose point: a top and a bottom."""
    top, bottom = term[1], 1
    for name in names_of(term):
        above, below = point[name]
        top, bottom = top * below + term[0][name] * above * bottom, bottom * below
    return (top, bottom)


def _is_loosely_so(test, point):
    """Whether a row or a same is so at a loose point."""
    top, _ = _value_at(term_of(test), point)
    return top >= 0 if test[0] == "row" else top == 0


def _is_spot(tests, names, thing):
    """Whether any object is a loose point of tests over these names."""
    if not isinstance(thing, dict) or len(thing) != len(names):
        return False
    if not all([name in thing and is_fraction(thing[name]) for name in names]):
        return False
    return all([_is_loosely_so(test, thing) for test in tests])


def is_loose_point(system, thing):
    """Whether any object is a loose point of a system."""
    tests = _loose_tests(system)
    return _is_spot(tests, system.names(), thing)


def loose_point(system):
    """A loose point of a system, None if there is none."""
    tests = _loose_tests(system)
    tableau, _ = _settled(tests, system.names())
    return None if tableau is None else _told_spot(tableau, system.names())


def loose_sum(system):
    """Multipliers that make a constant below 0 and nothing else; None if there are none."""
    tests = _loose_tests(system)
    tableau, fractions = _settled(tests, system.names())
    return None if tableau is not None else told_multipliers(fractions, list(range(len(tests))))


def is_loose_sum(system, thing):
    """Whether any object is multipliers that make a constant below 0 and nothing else."""
    return make_below(_loose_tests(system), thing)


def loose_least(system, term):
    """The least of a term at loose points, that it falls for ever, or that there is no loose point."""
    tests = _loose_tests(system)
    check_term(system, term)
    names = system.names()
    marks = list(range(len(tests)))
    tableau, fractions = _settled(tests, names)
    if tableau is None:
        return ("none", told_multipliers(fractions, marks))
    end = tableau.lowest_of(vector_of(term[0], names))
    point = _told_spot(tableau, names)
    if end.ray is not None:
        return ("falls", point, numbers_of(end.ray, names))
    top, bottom = end.least
    return ("least", lowest(top + term[1] * bottom, bottom), point, told_multipliers(end.fractions, marks))


def _is_loose_ray(tests, ray):
    """Whether no row falls along a ray, and no same changes."""
    for test in tests:
        change = change_along(term_of(test), ray)
        if change < 0 or (change != 0 and test[0] == "same"):
            return False
    return True


def _is_least(tests, names, term, thing):
    """Whether a list of four, the first one "least", is right."""
    _, fraction, point, multipliers = thing
    if not is_fraction(fraction) or not _is_spot(tests, names, point):
        return False
    top, bottom = _value_at(term, point)
    if top * fraction[1] != fraction[0] * bottom:
        return False
    # What the multipliers make beside the coefficients is the term's own constant less the fraction.
    beside = constant_beside(tests, multipliers, term)
    if beside is None:
        return False
    return beside[0] * fraction[1] == (term[1] * fraction[1] - fraction[0]) * beside[1]


def _is_falling(tests, names, term, thing):
    """Whether a list of three, the first one "falls", is right."""
    _, point, ray = thing
    if not _is_spot(tests, names, point) or not is_numbers_of(ray, names):
        return False
    return _is_loose_ray(tests, ray) and change_along(term, ray) < 0


def is_loose_least(system, term, thing):
    """Whether any object is a right answer of loose_least."""
    tests = _loose_tests(system)
    check_term(system, term)
    if not is_list(thing) or len(thing) == 0:
        return False
    names = system.names()
    if thing[0] == "least" and len(thing) == 4:
        return _is_least(tests, names, term, thing)
    if thing[0] == "falls" and len(thing) == 3:
        return _is_falling(tests, names, term, thing)
    return thing[0] == "none" and len(thing) == 2 and make_below(tests, thing[1])


def loose_quarrel(system):
    """The indexes of tests that have no loose point together, but one without any of them; None if all have one."""
    tests = _loose_tests(system)
    tableau, fractions = _settled(tests, system.names())
    if tableau is not None:
        return None
    # No term of these tests, with its constant, is made of the others': so the sum wants each of them.
    return sorted(fractions)
