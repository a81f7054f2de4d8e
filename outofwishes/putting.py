"""Terms put in for names: in terms, in tests, in bodies."""

from outofwishes.bodies import term_of
from outofwishes.terms import names_of, scaled, sum_of


def put_in_term_over(term, put, bottom):
    """A term, taken bottom times, in which each name of a dict is left out, and its term over the bottom put in."""
    kept = {name: term[0][name] for name in term[0] if name not in put}
    more = [scaled(put[name], term[0][name]) for name in names_of(term) if name in put]
    return sum_of([scaled((kept, term[1]), bottom)] + more)


def put_in_test_over(test, put, bottom):
    """The test that is so where a test is with the terms of a dict, over a bottom from 1 on, put in for its names."""
    term = put_in_term_over(term_of(test), put, bottom)
    return ("by", test[1] * bottom, term) if test[0] == "by" else (test[0], term)


def put_in_term(term, put):
    """A term in which each name of a dict is left out, and its term put in so many times."""
    return put_in_term_over(term, put, 1)


def put_in_test(test, put):
    """A test in whose term terms are put in for names."""
    return put_in_test_over(test, put, 1)


def put_in_body(body, put):
    """A body in whose terms terms are put in for names."""
    if body[0] == "not":
        return ("not", put_in_body(body[1], put))
    if body[0] in ("all", "any"):
        return (body[0], [put_in_body(inner, put) for inner in body[1]])
    return put_in_test(body, put)
