"""Many systems at once: a point of some one of them, or a paper of each."""

from outofwishes.wholes import paper_of, point_of


def part_of_point(point, names):
    """The numbers of some names of a point, told."""
    return {name: point[name] for name in sorted(names)}


def point_of_some(systems):
    """A point of the first system that has one, None if none has any."""
    for system in systems:
        point = point_of(system)
        if point is not None:
            return point
    return None


def inputs_of_some(systems, inputs):
    """The inputs at a point of the first system that has one, None if none has any."""
    point = point_of_some(systems)
    return None if point is None else part_of_point(point, inputs)


def papers_of_all(systems):
    """A paper for each system, None if some has a point."""
    papers = []
    for system in systems:
        paper = paper_of(system)
        if paper is None:
            return None
        papers.append(paper)
    return papers
