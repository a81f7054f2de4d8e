"""Papers: what shows that a system has no point, looked through by adding up."""

from outofwishes.flats import flat, flatten
from outofwishes.kinds import is_list, is_whole
from outofwishes.multipliers import constant_beside, make_below, make_broken
from outofwishes.terms import is_term, less, turned


def _values_between(tests, term, low, high):
    """The pair of the least and the greatest value that a term can have, as multipliers show; None if they do not."""
    below = constant_beside(tests, low, term)
    above = constant_beside(tests, high, turned(term))
    if below is None or above is None:
        return None
    return (term[1] - below[0] // below[1], term[1] + above[0] // above[1])


def _span_parts(part, tests, anys):
    """The papers of a span with what each is to be of, None if the span is wrong by itself."""
    _, term, low, high, papers = part
    if not is_term(term) or not is_list(papers):
        return None
    ends = _values_between(tests, term, low, high)
    if ends is None or len(papers) != max(0, ends[1] - ends[0] + 1):
        return None
    found = []
    for at, paper in enumerate(papers):
        found.append((paper, tests + [("same", less(term, ends[0] + at))], anys))
    return found


def _any_parts(part, tests, anys):
    """The papers of an any with what each is to be of, None if the any is wrong by itself."""
    _, index, papers = part
    if not is_whole(index) or index < 0 or index >= len(anys):
        return None
    if not is_list(papers) or len(papers) != len(anys[index]):
        return None
    found = []
    for body, paper in zip(anys[index], papers):
        more, others = list(tests), anys[:index] + anys[index + 1:]
        flatten(body, more, others)
        found.append((paper, more, others))
    return found


def _parts(part, tests, anys):
    """The papers in a part with the tests and anys each is to be of, None if the part is wrong by itself."""
    if not is_list(part) or len(part) == 0:
        return None
    if part[0] == "gauge" and len(part) == 2:
        return [] if make_broken(tests, part[1]) else None
    if part[0] == "sum" and len(part) == 2:
        return [] if make_below(tests, part[1]) else None
    if part[0] == "span" and len(part) == 5:
        return _span_parts(part, tests, anys)
    if part[0] == "any" and len(part) == 3:
        return _any_parts(part, tests, anys)
    return None


def flaw(system, thing):
    """None if any object is a paper of a system, else the way to its first part that is wrong by itself."""
    tests, anys = flat(system)
    ahead = [([], thing, tests, anys)]
    while len(ahead) > 0:
        way, part, tests, anys = ahead.pop()
        found = _parts(part, tests, anys)
        if found is None:
            return way
        for index in reversed(range(len(found))):
            ahead.append((way + [index], found[index][0], found[index][1], found[index][2]))
    return None


def is_paper(system, thing):
    """Whether any object is a paper of a system."""
    return flaw(system, thing) is None
