"""Quarrels: bodies of a system that are too much together, none of which can be spared for it."""

from outofwishes.bodies import term_of
from outofwishes.errors import BadIndexes, NoRow
from outofwishes.flats import flat
from outofwishes.kinds import is_list, is_whole
from outofwishes.leasts import least_of
from outofwishes.papers import is_paper
from outofwishes.proofs import needs_some
from outofwishes.search import answer_of
from outofwishes.terms import less, turned
from outofwishes.wholes import paper_of, point_of
from outofwishes.wishes import System, check_system, is_point


def bad_index_at(indexes, many):
    """The place of the first thing that is no index of so many or not above the one ahead; 0 for no list, or None."""
    if not is_list(indexes):
        return 0
    least = 0
    for place, index in enumerate(indexes):
        if not is_whole(index) or index < least or index >= many:
            return place
        least = index + 1
    return None


def part_of(system, indexes):
    """The system of just those of the bodies that have these indexes."""
    bodies = system.bodies()
    return System(system.names(), [bodies[index] for index in indexes])


def part(system, indexes):
    """The system of just those of the bodies that have these indexes, ascending."""
    check_system(system)
    place = bad_index_at(indexes, len(system.bodies()))
    if place is not None:
        raise BadIndexes(place)
    return part_of(system, indexes)


def others_of(indexes, index):
    """All indexes but one."""
    return [other for other in indexes if other != index]


def _needed_for(proof, system, tests, anys):
    """The indexes of the bodies that a proof needs, by the marks of the flat system's tests and anys, in order."""
    found = []
    for index in range(len(system.bodies())):
        own_tests, own_anys = flat(part_of(system, [index]))
        if needs_some(proof, tests[:len(own_tests)] + anys[:len(own_anys)]):
            found.append(index)
        tests, anys = tests[len(own_tests):], anys[len(own_anys):]
    return found


def quarrel(system):
    """Indexes of bodies that have no point, with a paper, and for each of them a point of the others; or None."""
    answer = answer_of(system)
    if answer.proof is None:
        return None
    # What a proof does not need can be spared: so fewer have to be tried, and of sums few are left.
    kept = _needed_for(answer.proof, system, answer.tests, answer.anys)
    points = {}
    for index in list(kept):
        points[index] = point_of(part_of(system, others_of(kept, index)))
        if points[index] is None:
            kept = others_of(kept, index)
    return (kept, paper_of(part_of(system, kept)), [points[index] for index in kept])


def is_quarrel(system, thing):
    """Whether any object is a quarrel of a system."""
    check_system(system)
    if not is_list(thing) or len(thing) != 3:
        return False
    indexes, paper, points = thing
    if bad_index_at(indexes, len(system.bodies())) is not None or not is_list(points) or len(points) != len(indexes):
        return False
    if not is_paper(part_of(system, indexes), paper):
        return False
    return all([is_point(part_of(system, others_of(indexes, one)), point) for one, point in zip(indexes, points)])


def needed(system):
    """The indexes that all quarrels have, None if the system has a point."""
    if point_of(system) is not None:
        return None
    indexes = list(range(len(system.bodies())))
    return [index for index in indexes if point_of(part_of(system, others_of(indexes, index))) is not None]


def _with_row(system, index, term):
    """The system with another row in the place of a body."""
    bodies = system.bodies()
    bodies[index] = ("row", term)
    return System(system.names(), bodies)


def loosened(system, index):
    """By how much more a row has to let, with a point and a paper; None if the other bodies have no point."""
    check_system(system)
    bodies = system.bodies()
    if not is_whole(index) or index < 0 or index >= len(bodies) or bodies[index][0] != "row":
        raise NoRow(index)
    term = term_of(bodies[index])
    others = part_of(system, others_of(list(range(len(bodies))), index))
    end = least_of(others, turned(term))
    if end[0] == "none":
        return None
    number = max(0, end[1]) if end[0] == "least" else 0
    point = point_of(_with_row(system, index, less(term, -number)))
    if number == 0:
        return (0, point, None)
    return (number, point, paper_of(_with_row(system, index, less(term, 1 - number))))
