"""All whole points of sames and bys: a point, and steps that can be taken from it any whole number of times."""

from math import gcd, lcm

from outofwishes.multipliers import lowest
from outofwishes.reduction import Reduction, nearest
from outofwishes.vectors import dot, stepped, unit_vectors

# Steps with a number beyond this are made short again, so that numbers cannot grow from equation to equation.
MOST_IN_STEPS = 1000


def _smallest_other_than_zero(numbers, start):
    """The index, from start on, of the first number that is nearest to 0, but not 0; None if all are 0."""
    found = None
    for at in range(start, len(numbers)):
        if numbers[at] != 0 and (found is None or abs(numbers[at]) < abs(numbers[found])):
            found = at
    return found


class Lattice:
    """The points of sames and bys.

    A dual counts how often its step is taken: its product with that step is scale, with each other step 0.
    Each passed equation is kept as its mark, its vector, the step that it took away, and by how much it changed by
    that step; what a by is divided by is a step that changes no name.
    """

    def __init__(self, point, steps, duals, scale, passed):
        self.point = point
        self.steps = steps
        self.duals = duals
        self.scale = scale
        self.passed = passed

    def pivoted(self, changes, start):
        """The lattice with other steps, from start on, such that at most one of these changes by other than 0.

        changes tells by how much something changes with each step. Told are the lattice, its changes, and the index
        of the step that changes it, or None.
        """
        steps, duals, changes = list(self.steps), list(self.duals), list(changes)
        while True:
            least = _smallest_other_than_zero(changes, start)
            others = [at for at in range(start, len(changes)) if changes[at] != 0 and at != least]
            for at in others:
                size = abs(changes[least])
                times = nearest(changes[at], size) * (changes[least] // size)
                steps[at] = stepped(steps[at], -times, steps[least])
                duals[least] = stepped(duals[least], times, duals[at])
                changes[at] = changes[at] - times * changes[least]
            if len(others) == 0:
                return (Lattice(self.point, steps, duals, self.scale, self.passed), changes, least)

    def with_first(self, at, place):
        """The lattice with the step at at exchanged with the one at a place."""
        steps, duals = list(self.steps), list(self.duals)
        steps[at], steps[place] = steps[place], steps[at]
        duals[at], duals[place] = duals[place], duals[at]
        return Lattice(self.point, steps, duals, self.scale, self.passed)

    def with_divisor(self, fact):
        """The lattice with one step more, which changes no name: that by which the m of a by is taken off."""
        scale = lcm(self.scale, fact.many)
        grown = scale // self.scale
        duals = [[number * grown for number in dual] for dual in self.duals]
        duals.append([number * (scale // fact.many) for number in fact.vector])
        steps = self.steps + [[0] * len(self.point)]
        return Lattice(self.point, steps, duals, scale, self.passed)

    def without(self, fact, at, times, change):
        """The lattice on which a fact is so: with its one step taken so many times, and then no more."""
        point = stepped(self.point, times, self.steps[at])
        passed = self.passed + [(fact.mark, fact.vector, self.steps[at], change)]
        steps = self.steps[:at] + self.steps[at + 1:]
        duals = self.duals[:at] + self.duals[at + 1:]
        return Lattice(point, steps, duals, self.scale, passed)

    def shortened(self):
        """The lattice with short steps, if some are long."""
        if all([abs(number) <= MOST_IN_STEPS for step in self.steps for number in step]):
            return self
        reduction = Reduction(self.steps, self.steps, self.duals)
        reduction.run()
        point = reduction.reduced(self.point)
        return Lattice(point, reduction.along, reduction.against, self.scale, self.passed)


def whole_lattice(many):
    """The lattice of all points of so many names."""
    return Lattice([0] * many, unit_vectors(many), unit_vectors(many), 1, [])


def _gauge_of(lattice, fact, divisor):
    """The multipliers, by marks, of a gauge: of a fact that, divided so, is whole along all steps, but not itself."""
    found = {fact.mark: lowest(1, divisor)}
    tops, bottom = fact.vector, divisor
    for mark, vector, step, change in reversed(lattice.passed):
        fraction = lowest(-dot(tops, step), bottom * change)
        # A whole number more or less makes only whole numbers more or less.
        top = fraction[0] - nearest(fraction[0], fraction[1]) * fraction[1]
        if top != 0:
            found[mark] = (top, fraction[1])
            common = lcm(bottom, fraction[1])
            tops = stepped([number * (common // bottom) for number in tops], top * (common // fraction[1]), vector)
            bottom = common
    return found


def narrowed(lattice, fact):
    """The pair of a lattice's points at which a same or a by is so, and None; or None and a gauge's multipliers."""
    changes = [dot(fact.vector, step) for step in lattice.steps]
    value = dot(fact.vector, lattice.point) + fact.constant
    if fact.kind == "by":
        divisor = fact.many
        for change in changes:
            divisor = gcd(divisor, change)
        if divisor == fact.many and value % divisor == 0:
            return (lattice, None)
        lattice = lattice.with_divisor(fact)
        changes = changes + [-fact.many]
    lattice, changes, at = lattice.pivoted(changes, 0)
    if at is None:
        if value == 0:
            return (lattice, None)
        return (None, _gauge_of(lattice, fact, 2 * abs(value)))
    if value % changes[at] != 0:
        return (None, _gauge_of(lattice, fact, abs(changes[at])))
    return (lattice.without(fact, at, -(value // changes[at]), changes[at]), None)


def lattice_of(facts, many):
    """The pair of the lattice of the sames and bys among facts, and None; or None and a gauge's multipliers."""
    lattice = whole_lattice(many)
    for fact in facts:
        if fact.kind != "row":
            lattice, gauge = narrowed(lattice, fact)
            if gauge is not None:
                return (None, gauge)
            lattice = lattice.shortened()
    return (lattice, None)
