"""Bodies held against one another: what follows, what is alike, and what of a system says all of it."""

from outofwishes.bodies import is_body, is_so
from outofwishes.errors import BadBody, BadNames
from outofwishes.flats import denied
from outofwishes.kinds import bad_name_at, is_list
from outofwishes.papers import is_paper
from outofwishes.quarrels import bad_index_at, others_of, part_of
from outofwishes.wholes import paper_of, point_of
from outofwishes.wishes import System, check_no_stranger, check_system, is_point


def against(names, one, other):
    """The system of the numbers at which one body is so and the other one is not."""
    place = bad_name_at(names, [])
    if place is not None:
        raise BadNames(place)
    for body in (one, other):
        if not is_body(body):
            raise BadBody(body)
    check_no_stranger([one, other], names)
    return System(names, [one, denied(other)])


def follows(names, one, other):
    """Whether the other body is so wherever the one is."""
    return point_of(against(names, one, other)) is None


def parted(names, one, other):
    """Numbers at which just one of two bodies is so, None if they are alike."""
    point = point_of(against(names, one, other))
    if point is not None:
        return point
    return point_of(against(names, other, one))


def alike(names, one, other):
    """Whether two bodies are so at the same numbers."""
    return parted(names, one, other) is None


def _against_part(system, indexes, index):
    """The system of the numbers at which the bodies of some indexes are so, and that of another one is not."""
    bodies = system.bodies()
    return against(system.names(), ("all", [bodies[other] for other in indexes]), bodies[index])


def _others_beside(system, indexes):
    """The indexes of all bodies that are none of these."""
    return [index for index in range(len(system.bodies())) if index not in indexes]


def core(system):
    """Indexes of bodies from which all others follow, with papers, and points at which each of them is missed."""
    check_system(system)
    kept = list(range(len(system.bodies())))
    points = {}
    for index in list(kept):
        points[index] = point_of(_against_part(system, others_of(kept, index), index))
        if points[index] is None:
            kept = others_of(kept, index)
    papers = [paper_of(_against_part(system, kept, index)) for index in _others_beside(system, kept)]
    return (kept, papers, [points[index] for index in kept])


def _are_papers_of(system, indexes, papers):
    """Whether papers show, one each, that the other bodies follow from those of some indexes."""
    others = _others_beside(system, indexes)
    if not is_list(papers) or len(papers) != len(others):
        return False
    return all([is_paper(_against_part(system, indexes, one), paper) for one, paper in zip(others, papers)])


def _is_missed(system, indexes, index, point):
    """Whether at a point the bodies of all other indexes are so, and that of the index is not."""
    return is_point(part_of(system, others_of(indexes, index)), point) and not is_so(system.bodies()[index], point)


def is_core(system, thing):
    """Whether any object is a core of a system."""
    check_system(system)
    if not is_list(thing) or len(thing) != 3:
        return False
    indexes, papers, points = thing
    if bad_index_at(indexes, len(system.bodies())) is not None or not is_list(points) or len(points) != len(indexes):
        return False
    if not all([_is_missed(system, indexes, index, point) for index, point in zip(indexes, points)]):
        return False
    return _are_papers_of(system, indexes, papers)
