"""Bodies without not, tight tests, flat systems, and cases."""

from math import gcd

from outofwishes.bodies import is_body, is_test, told_test
from outofwishes.errors import BadBody, BadCase, BadTest
from outofwishes.kinds import is_list
from outofwishes.terms import less, names_of, told_term, turned
from outofwishes.wishes import check_system


def _denied_test(test):
    """The body without "not" that is so just where a test is not."""
    if test[0] == "row":
        return ("row", less(turned(test[1]), 1))
    if test[0] == "same":
        return ("any", [("row", less(test[1], 1)), ("row", less(turned(test[1]), 1))])
    return ("any", [("by", test[1], less(test[2], rest)) for rest in range(1, test[1])])


def _without_not(body, wanted):
    """The body without "not" that is so just where a body is (wanted True), or is not (False)."""
    if body[0] == "not":
        return _without_not(body[1], not wanted)
    if body[0] in ("all", "any"):
        kind = "all" if (body[0] == "all") == wanted else "any"
        return (kind, [_without_not(inner, wanted) for inner in body[1]])
    if wanted:
        return told_test(body)
    return _denied_test(body)


def plain(body):
    """The body without "not" that is so just where a body is."""
    if not is_body(body):
        raise BadBody(body)
    return _without_not(body, True)


def denied(body):
    """The body without "not" that is so just where a body is not."""
    if not is_body(body):
        raise BadBody(body)
    return _without_not(body, False)


def _divisor_of(term, number):
    """The greatest common divisor of a number and all coefficients of a term."""
    divisor = number
    for name in names_of(term):
        divisor = gcd(divisor, term[0][name])
    return divisor


def _divided(term, number):
    """A term whose coefficients are divided by a number that divides them, its constant rounded down."""
    return told_term(({name: term[0][name] // number for name in term[0]}, term[1] // number))


def _rests(term, number):
    """A term whose coefficients and constant are the rests by a number."""
    return told_term(({name: term[0][name] % number for name in term[0]}, term[1] % number))


def _tight_row(term):
    divisor = _divisor_of(term, 0)
    if divisor == 0:
        return term[1] >= 0
    return ("row", _divided(term, divisor))


def _tight_same(term):
    divisor = _divisor_of(term, 0)
    if divisor == 0:
        return term[1] == 0
    if term[1] % divisor != 0:
        return False
    if term[0][names_of(term)[0]] < 0:
        return ("same", turned(_divided(term, divisor)))
    return ("same", _divided(term, divisor))


def _tight_by(many, term):
    rests = _rests(term, many)
    divisor = _divisor_of(rests, many)
    if rests[1] % divisor != 0:
        return False
    # Without a name the divisor is the number itself, which divides the constant here.
    if len(names_of(rests)) == 0:
        return True
    return ("by", many // divisor, _divided(rests, divisor))


def tight(test):
    """True if a test is always so, False if it is never so, else the tight test that is so at the same numbers."""
    if not is_test(test):
        raise BadTest(test)
    if test[0] == "row":
        return _tight_row(test[1])
    if test[0] == "same":
        return _tight_same(test[1])
    return _tight_by(test[1], test[2])


def flatten(body, tests, anys):
    """Put a plain body behind the tests, or behind the anys, opened as far as it is sure."""
    if body[0] == "any" and len(body[1]) != 1:
        anys.append(body[1])
    elif body[0] in ("all", "any"):
        for inner in body[1]:
            flatten(inner, tests, anys)
    else:
        tests.append(body)


def flat(system):
    """The pair of the tests that are all to be so, and the lists of bodies of each of which one is."""
    check_system(system)
    tests = []
    anys = []
    for body in system.bodies():
        flatten(_without_not(body, True), tests, anys)
    return (tests, anys)


def _unlike(things):
    """A list without what stood before in it."""
    kept = []
    for thing in things:
        if thing not in kept:
            kept.append(thing)
    return kept


def _cases_of_test(test):
    tightened = tight(test)
    if tightened is True:
        return [[]]
    if tightened is False:
        return []
    return [[tightened]]


def _cases_of(body):
    """The cases of a body without "not"."""
    if body[0] == "any":
        return _unlike([case for inner in body[1] for case in _cases_of(inner)])
    if body[0] == "all":
        # What is left out early makes nothing but doubles later, so nothing is lost and the order is the same.
        found = [[]]
        for inner in body[1]:
            behind = _cases_of(inner)
            found = _unlike([_unlike(case + more) for case in found for more in behind])
        return found
    return _cases_of_test(body)


def told_case(case):
    """A list of tests, told; BadCase for what is none."""
    if not is_list(case):
        raise BadCase(0)
    for index, test in enumerate(case):
        if not is_test(test):
            raise BadCase(index)
    return [told_test(test) for test in case]


def cases(body):
    """The list of cases of a body: it is so just where all tests of some case are."""
    return [told_case(case) for case in _cases_of(plain(body))]
