"""Just one: a whole point of a system, or a paper that shows that there is none."""

from outofwishes.search import answer_of, told_answer


def point_of(system):
    """A point of a system, None if there is none."""
    return answer_of(system).point


def paper_of(system):
    """A paper of a system, None if there is a point."""
    return told_answer(answer_of(system))
