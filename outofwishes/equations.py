"""Sames and bys: all their points, or a gauge that shows that there is none."""

from outofwishes.bodies import is_so, term_of
from outofwishes.errors import BadPoint, BadSolution, NotEven
from outofwishes.flats import flat
from outofwishes.kinds import is_list, is_numbers_of
from outofwishes.lattices import lattice_of
from outofwishes.multipliers import make_broken, told_multipliers
from outofwishes.terms import change_along
from outofwishes.vectors import dot, facts_of, numbers_of, stepped, vector_of


def _even_tests(system):
    """The flat system's tests, of a system of sames and bys alone."""
    tests, anys = flat(system)
    for index, test in enumerate(tests):
        if test[0] == "row":
            raise NotEven(index)
    if len(anys) > 0:
        raise NotEven(len(tests))
    return tests


def _lattice_of(tests, names):
    """The pair of the lattice of tests and None, or None and a gauge's multipliers."""
    return lattice_of(facts_of(tests, names), len(names))


def solution(system):
    """A point, and the steps of which one mix alone leads from it to each point; None if there is no point."""
    tests = _even_tests(system)
    names = system.names()
    lattice, _ = _lattice_of(tests, names)
    if lattice is None:
        return None
    return (numbers_of(lattice.point, names), [numbers_of(step, names) for step in lattice.steps])


def _size(rows):
    """The determinant of a square of integers, taken row by row."""
    rows = [list(row) for row in rows]
    ahead = 1
    turned = False
    for at in range(len(rows)):
        found = [below for below in range(at, len(rows)) if rows[below][at] != 0]
        if len(found) == 0:
            return 0
        if found[0] != at:
            rows[at], rows[found[0]] = rows[found[0]], rows[at]
            turned = not turned
        first = rows[at]
        for below in range(at + 1, len(rows)):
            part = rows[below][at]
            rows[below] = [(first[at] * a - part * b) // ahead for a, b in zip(rows[below], first)]
        ahead = first[at]
    return -ahead if turned else ahead


def _products(steps):
    """The square of the products of each step with each."""
    return [[dot(one, other) for other in steps] for one in steps]


def _is_step(tests, step):
    """Whether along a step no same changes, and each by by a multiple of its m."""
    for test in tests:
        change = change_along(term_of(test), step)
        if test[0] == "same" and change != 0:
            return False
        if test[0] == "by" and change % test[1] != 0:
            return False
    return True


def _is_solution_of(tests, names, thing):
    """Whether any object is a solution of tests over these names."""
    if not is_list(thing) or len(thing) != 2 or not is_list(thing[1]):
        return False
    point, steps = thing
    if not is_numbers_of(point, names) or not is_so(("all", tests), point):
        return False
    if not all([is_numbers_of(step, names) and _is_step(tests, step) for step in steps]):
        return False
    lattice, _ = _lattice_of(tests, names)
    if len(steps) != len(lattice.steps):
        return False
    # As many steps among all whole mixes reach all of them if they span just as much.
    vectors = [vector_of(step, names) for step in steps]
    return _size(_products(vectors)) == _size(_products(lattice.steps))


def is_solution(system, thing):
    """Whether any object is a solution of a system."""
    tests = _even_tests(system)
    return _is_solution_of(tests, system.names(), thing)


def gauge(system):
    """A gauge, which shows that there is no point; None if there is one."""
    tests = _even_tests(system)
    lattice, fractions = _lattice_of(tests, system.names())
    if lattice is not None:
        return None
    return ("gauge", told_multipliers(fractions, list(range(len(tests)))))


def is_gauge(system, thing):
    """Whether any object is a gauge of a system."""
    tests = _even_tests(system)
    return is_list(thing) and len(thing) == 2 and thing[0] == "gauge" and make_broken(tests, thing[1])


def mix_of(system, solution, point):
    """How often each step of a solution is taken from its point to a point."""
    tests = _even_tests(system)
    names = system.names()
    if not _is_solution_of(tests, names, solution):
        raise BadSolution(solution)
    if not is_numbers_of(point, names) or not is_so(("all", tests), point):
        raise BadPoint(point)
    way = stepped(vector_of(point, names), -1, vector_of(solution[0], names))
    steps = [vector_of(step, names) for step in solution[1]]
    square = _products(steps)
    whole = _size(square)
    mix = []
    for index in range(len(steps)):
        # By Cramer: the products with the way stand in the place of those with the step itself.
        rows = [row[:index] + [dot(step, way)] + row[index + 1:] for row, step in zip(square, steps)]
        mix.append(_size(rows) // whole)
    return mix
