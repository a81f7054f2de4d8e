"""What is so whatever one name is between two ends; else the least integer by which it is broken."""

from outofwishes.bodies import names_of_bodies
from outofwishes.errors import BadHigh, BadLow, BadNumbers, NoInput, NotOneCase
from outofwishes.flats import cases, denied, told_case
from outofwishes.kinds import is_numbers_with
from outofwishes.nameout import check_name, rest_at
from outofwishes.putting import put_in_term, put_in_test
from outofwishes.seeking import coefficient_in
from outofwishes.terms import is_term, less, names_of, sum_of, told_term, turned, value_of
from outofwishes.wishes import Wish, check_wish


def _less_term(term, other):
    """A term less another one."""
    return sum_of([term, turned(other)])


def _check_ends(name, low, high):
    """Raise BadLow, BadHigh for ends that are no terms, or have the name."""
    if not is_term(low) or name in names_of(low):
        raise BadLow(low)
    if not is_term(high) or name in names_of(high):
        raise BadHigh(high)


def _first_broken(test, part, rest, least):
    """The least integer from one on by which a test is not so, whose term is so many times it, and a rest; or None."""
    value = part * least + rest
    if test[0] == "row":
        if value < 0:
            return least
        return least + value // -part + 1 if part < 0 else None
    many = test[1] if test[0] == "by" else 0
    if value != 0 and (many == 0 or value % many != 0):
        return least
    # So it is so at the least one; if it is so at the next one, too, it is so at all.
    return None if part == 0 or (many != 0 and part % many == 0) else least + 1


def broken_by(case, name, low, high, numbers):
    """The least integer for a name from low to high with which some test is not so, None if there is none."""
    tests = told_case(case)
    check_name(name)
    _check_ends(name, low, high)
    wanted = names_of_bodies(tests + [("row", low), ("row", high)])
    if not is_numbers_with(numbers, [other for other in wanted if other != name]):
        raise BadNumbers(numbers)
    least, most = value_of(low, numbers), value_of(high, numbers)
    found = None
    for test in tests:
        number = _first_broken(test, coefficient_in(test, name), rest_at(test, name, numbers), least)
        if number is not None and number <= most and (found is None or number < found):
            found = number
    return found


def _sure_row(term, name, low, high):
    """The row that says that a row is so from low to high: its term at its worst end."""
    part = term[0].get(name, 0)
    if part == 0:
        return ("row", told_term(term))
    return ("row", put_in_term(term, {name: low if part > 0 else high}))


def _sure_body(test, name, low, high):
    """The body that says that a test is so from low to high."""
    part = coefficient_in(test, name)
    if part == 0:
        return test
    if test[0] == "row":
        return _sure_row(test[1], name, low, high)
    if test[0] == "same":
        return ("all", [_sure_row(term, name, low, high) for term in (test[1], turned(test[1]))])
    alone = ("any", [("row", _less_term(low, high)), ("by", test[1], ({}, part))])
    return ("all", [put_in_test(test, {name: low}), alone])


def _sure(tests, name, low, high):
    """The body that says that tests are so from low to high."""
    bodies = [_sure_body(test, name, low, high) for test in tests]
    return ("any", [("row", less(_less_term(low, high), 1)), ("all", bodies)])


def sure(case, name, low, high):
    """The body without a name that is so just where a case is, with each integer for the name from low to high."""
    tests = told_case(case)
    check_name(name)
    _check_ends(name, low, high)
    return _sure(tests, name, low, high)


def _others_of(wish, name, low, high):
    """The inputs but one; NoInput if it is none, BadLow, BadHigh for what is no term over these."""
    inputs = wish.inputs()
    if name not in inputs:
        raise NoInput(name)
    others = [other for other in inputs if other != name]
    if not is_term(low) or not all([other in others for other in names_of(low)]):
        raise BadLow(low)
    if not is_term(high) or not all([other in others for other in names_of(high)]):
        raise BadHigh(high)
    return others


def sure_wish(wish, name, low, high):
    """The wish, of one case, for outputs that do whatever an input is from low to high."""
    check_wish(wish)
    others = _others_of(wish, name, low, high)
    found = cases(wish.body())
    if len(found) != 1:
        raise NotOneCase(len(found))
    return Wish(others, wish.outputs(), _sure(found[0], name, low, high))


def breaking(wish, name, low, high):
    """The wish of the inputs but one, and the outputs, for that input from low to high so that they do not do."""
    check_wish(wish)
    others = _others_of(wish, name, low, high)
    one = ({name: 1}, 0)
    ends = [("row", _less_term(one, low)), ("row", _less_term(high, one))]
    return Wish(others + wish.outputs(), [name], ("all", ends + [denied(wish.body())]))
