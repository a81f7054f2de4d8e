"""Statements, each by itself, and what stands in them: what programs are made of."""

from outofwishes.bodies import is_test, told_test
from outofwishes.kinds import is_from_one, is_list, is_name
from outofwishes.terms import bad_term_at, is_term, names_of, told_term

PARTS = {"give": 2, "none": 1, "let": 5, "most": 4, "if": 4, "first": 6}


def _are_terms_of(thing, known):
    """Whether a thing is a list of terms of known names."""
    return bad_term_at(thing) is None and all([_is_term_of(term, known) for term in thing])


def _is_term_of(thing, known):
    """Whether a thing is a term of known names; a coefficient 0 needs none."""
    return is_term(thing) and all([name in known for name in names_of(thing)])


def _is_test_of(thing, known):
    """Whether a thing is a test of known names."""
    return is_test(thing) and _is_term_of(thing[-1], known)


def _are_tests_of(thing, known):
    """Whether a thing is a list of tests of known names."""
    return is_list(thing) and all([_is_test_of(test, known) for test in thing])


def is_new(thing, known, outputs):
    """Whether a thing is a name that a statement may set."""
    return is_name(thing) and thing not in known and thing not in outputs


def is_statement_itself(thing, known, outputs):
    """Whether a thing is a statement where these names are known, whatever stands in it."""
    if not is_list(thing) or len(thing) == 0 or not isinstance(thing[0], str):
        return False
    kind = thing[0]
    if kind not in PARTS or len(thing) != PARTS[kind]:
        return False
    if kind == "none":
        return True
    if kind == "give":
        return _are_terms_of(thing[1], known) and len(thing[1]) == len(outputs)
    if kind == "if":
        return _is_test_of(thing[1], known)
    if not is_new(thing[1], known, outputs):
        return False
    if kind == "let":
        return is_from_one(thing[2]) and _is_term_of(thing[3], known)
    if kind == "most":
        return _are_terms_of(thing[2], known) and len(thing[2]) > 0
    return is_from_one(thing[2]) and _are_tests_of(thing[3], known + [thing[1]])


def inner_of(statement, known):
    """The list, by turns, of the pairs of a thing that stands in a statement and the names known there."""
    kind = statement[0]
    if kind in ("give", "none"):
        return []
    if kind == "if":
        return [(statement[2], known), (statement[3], known)]
    behind = known + [statement[1]]
    if kind == "first":
        return [(statement[4], behind), (statement[5], known)]
    return [(statement[-1], behind)]


def _put_inner(ahead, place, statement, known):
    """Put what stands in a statement behind what is still to be gone to, the next one last."""
    inner = inner_of(statement, known)
    for turn in reversed(range(len(inner))):
        ahead.append((place + [turn], inner[turn][0], inner[turn][1]))


def visits(statement, known):
    """The triples of a place, the statement there and the names known there, in order."""
    found = []
    ahead = [([], statement, known)]
    while len(ahead) > 0:
        place, there, names = ahead.pop()
        found.append((place, there, names))
        _put_inner(ahead, place, there, names)
    return found


def bad_place(thing, inputs, outputs):
    """The first place at which stands what is no statement by itself, None if there is none such."""
    ahead = [([], thing, list(inputs))]
    while len(ahead) > 0:
        place, there, names = ahead.pop()
        if not is_statement_itself(there, names, outputs):
            return place
        _put_inner(ahead, place, there, names)
    return None


def told_statement(statement):
    """The told form of a statement, new throughout."""
    kind = statement[0]
    if kind == "none":
        return ("none",)
    if kind == "give":
        return ("give", [told_term(term) for term in statement[1]])
    if kind == "let":
        name, number, term, inner = statement[1:]
        return ("let", name, number, told_term(term), told_statement(inner))
    if kind == "most":
        terms = [told_term(term) for term in statement[2]]
        return ("most", statement[1], terms, told_statement(statement[3]))
    if kind == "if":
        return ("if", told_test(statement[1]), told_statement(statement[2]), told_statement(statement[3]))
    name, count, tests, inner, other = statement[1:]
    told = [told_test(test) for test in tests]
    return ("first", name, count, told, told_statement(inner), told_statement(other))
