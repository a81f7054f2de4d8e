"""Tests of terms, and bodies: tests put together by not, all, any."""

from outofwishes.errors import BadBody, BadNumbers
from outofwishes.kinds import is_from_one, is_list, is_numbers_with
from outofwishes.terms import is_term, names_of, told_term, value_of


def is_test(thing):
    """Whether any object is a test."""
    if not is_list(thing):
        return False
    if len(thing) == 2:
        return thing[0] in ("row", "same") and is_term(thing[1])
    return len(thing) == 3 and thing[0] == "by" and is_from_one(thing[1]) and is_term(thing[2])


def told_test(test):
    """The told form of a test, new throughout."""
    if test[0] == "by":
        return ("by", test[1], told_term(test[2]))
    return (test[0], told_term(test[1]))


def term_of(test):
    """The term that a test asks about."""
    return test[-1]


def is_test_so(test, numbers):
    """Whether a test is so at numbers that lack none of its names."""
    value = value_of(term_of(test), numbers)
    if test[0] == "row":
        return value >= 0
    if test[0] == "same":
        return value == 0
    return value % test[1] == 0


def is_body(thing):
    """Whether any object is a body."""
    if is_test(thing):
        return True
    if not is_list(thing) or len(thing) != 2:
        return False
    if thing[0] == "not":
        return is_body(thing[1])
    if thing[0] not in ("all", "any") or not is_list(thing[1]):
        return False
    return all([is_body(body) for body in thing[1]])


def told_body(body):
    """The told form of a body, new throughout."""
    if body[0] == "not":
        return ("not", told_body(body[1]))
    if body[0] in ("all", "any"):
        return (body[0], [told_body(inner) for inner in body[1]])
    return told_test(body)


def tests_of(body):
    """All tests that stand in a body, in order."""
    if body[0] == "not":
        return tests_of(body[1])
    if body[0] in ("all", "any"):
        return [test for inner in body[1] for test in tests_of(inner)]
    return [body]


def names_of_bodies(bodies):
    """The ascending names with a coefficient other than 0 in some term of some body."""
    return sorted({name for body in bodies for test in tests_of(body) for name in names_of(term_of(test))})


def is_so(body, numbers):
    """Whether a body is so at numbers that lack none of its names."""
    if body[0] == "not":
        return not is_so(body[1], numbers)
    if body[0] == "all":
        return all([is_so(inner, numbers) for inner in body[1]])
    if body[0] == "any":
        return any([is_so(inner, numbers) for inner in body[1]])
    return is_test_so(body, numbers)


def names_in(body):
    """The ascending list of the names with a coefficient other than 0 in some term of a body."""
    if not is_body(body):
        raise BadBody(body)
    return names_of_bodies([body])


def holds(body, numbers):
    """Whether a body is so at numbers; wanted are all names of names_in."""
    if not is_body(body):
        raise BadBody(body)
    if not is_numbers_with(numbers, names_of_bodies([body])):
        raise BadNumbers(numbers)
    return is_so(body, numbers)
