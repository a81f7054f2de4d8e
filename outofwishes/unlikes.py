"""Two programs held against one another: unlike at some inputs, or alike, with papers."""

from outofwishes.errors import UnlikeNames
from outofwishes.putting import put_in_body, put_in_term
from outofwishes.terms import sum_of, turned
from outofwishes.together import inputs_of_some, papers_of_all
from outofwishes.ways import check_program, trips_of
from outofwishes.wishes import System


def _check_both(program, other):
    """Raise BadProgram for what is no Program, UnlikeNames if their inputs or outputs are not the same."""
    check_program(program)
    check_program(other)
    if program.inputs() != other.inputs() or program.outputs() != other.outputs():
        raise UnlikeNames()


def _new_name(names):
    """The first of z0, z1, .. that is none of these names."""
    at = 0
    while "z" + str(at) in names:
        at += 1
    return "z" + str(at)


def _unlike_system(former, latter, many):
    """The system of the numbers by which one goes both ways, and is told otherwise; so many names are inputs."""
    names = list(former.known)
    put = {}
    for name in latter.known[many:]:
        new = _new_name(names)
        put[name] = ({new: 1}, 0)
        names.append(new)
    bodies = former.said + [put_in_body(body, put) for body in latter.said]
    one, two = former.told_end(), latter.told_end()
    if one is not None and two is not None:
        sames = [("same", sum_of([term, turned(put_in_term(other, put))])) for term, other in zip(one, two)]
        bodies = bodies + [("not", ("all", sames))]
    return System(names, bodies)


def unlike_ways(program, other):
    """The systems of each way of the one program with each way of the other one, but for two that tell none."""
    _check_both(program, other)
    many = len(program.inputs())
    latters = trips_of(other)
    found = []
    for former in trips_of(program):
        for latter in latters:
            if former.told_end() is not None or latter.told_end() is not None:
                found.append(_unlike_system(former, latter, many))
    return found


def unlike_at(program, other):
    """Inputs at which two programs are unlike, None if there are none."""
    systems = unlike_ways(program, other)
    return inputs_of_some(systems, program.inputs())


def alike_papers(program, other):
    """A paper for each of unlike_ways, None if the programs are unlike at some inputs."""
    return papers_of_all(unlike_ways(program, other))
