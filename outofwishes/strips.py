"""Strips: how far the loose points of a tableau go along a direction, and which whole values lie between."""

from math import gcd

from outofwishes.lattices import Lattice
from outofwishes.reduction import Reduction, nearest
from outofwishes.vectors import dot, stepped, unit_vectors

# How finely directions and middles are measured; this tells only where to look first.
FINE = 64
MOST_ROUNDS = 8


class Strip:
    """A direction, its least and greatest loose values, and the whole values between.

    The values on the lattice are those from first to last, a period apart.
    """

    def __init__(self, vector, ends, start, period):
        low, high = ends
        self.vector = vector
        self.low = low.fractions
        self.high = high.fractions
        self.lowest = -(-low.least[0] // low.least[1])
        self.highest = -high.least[0] // high.least[1]
        self.period = period
        self.first = self.lowest + (start - self.lowest) % period
        self.last = self.highest - (self.highest - start) % period
        self.many = max(0, (self.last - self.first) // period + 1)

    def value(self, turn):
        """The value on the lattice at this turn, the middle one first, then outward."""
        way = (turn + 1) // 2 if turn % 2 == 1 else -(turn // 2)
        return self.first + ((self.many - 1) // 2 + way) * self.period


def strip_along(tableau, lattice, dual, spots):
    """The strip along a dual, as short as integers let; the two spots at its ends are put behind the spots."""
    divisor = lattice.scale
    for number in dual:
        divisor = gcd(divisor, number)
    vector = [number // divisor for number in dual]
    low = tableau.lowest_of(vector)
    spots.append(tableau.spot())
    high = tableau.lowest_of([-number for number in vector])
    spots.append(tableau.spot())
    return Strip(vector, (low, high), dot(vector, lattice.point), lattice.scale // divisor)


def _widths(dual, scale, spots):
    """How far a dual goes between the two spots of each pair, in parts of FINE."""
    found = []
    for at in range(0, len(spots), 2):
        (here, below), (there, under) = spots[at], spots[at + 1]
        way = dot(dual, there) * below - dot(dual, here) * under
        found.append(FINE * way // (scale * below * under))
    return found


def shorter(lattice, many, spots):
    """The lattice with its first so many duals mixed so that they go as little as can be between the spots."""
    duals = lattice.duals[:many]
    vectors = [_widths(dual, lattice.scale, spots) + unit for dual, unit in zip(duals, unit_vectors(many))]
    reduction = Reduction(vectors, duals, lattice.steps[:many])
    reduction.run()
    steps = reduction.against + lattice.steps[many:]
    duals = reduction.along + lattice.duals[many:]
    return Lattice(lattice.point, steps, duals, lattice.scale, lattice.passed)


def middle_point(lattice, many, spots):
    """A point of the lattice near the middle of the spots, as its first so many duals tell."""
    point = lattice.point
    for dual, step in zip(lattice.duals[:many], lattice.steps[:many]):
        start = dot(dual, lattice.point)
        parts = [FINE * (dot(dual, tops) - start * bottom) // (lattice.scale * bottom) for tops, bottom in spots]
        point = stepped(point, nearest(sum(parts), FINE * len(parts)), step)
    return point


class Thinning:
    """The search for a thin strip among the first so many duals of a lattice."""

    def __init__(self, tableau, lattice, many):
        self.tableau = tableau
        self.lattice = lattice
        self.many = many
        self.spots = []
        self.best = None
        self.seen = {}

    def _look(self, dual):
        """Take the strip along a dual, if it was not seen, and keep the thinnest; tell whether it is new."""
        if tuple(dual) in self.seen:
            return False
        self.seen[tuple(dual)] = True
        self.seen[tuple([-number for number in dual])] = True
        strip = strip_along(self.tableau, self.lattice, dual, self.spots)
        if self.best is None or strip.many < self.best.many:
            self.best = strip
        return True

    def is_thin(self):
        """Whether the best strip parts nothing in two."""
        return self.best.many <= 1

    def look_at_all(self):
        """Take the strips along all duals, till one is thin; tell whether any was new."""
        new = False
        for dual in self.lattice.duals[:self.many]:
            if self._look(dual):
                new = True
                if self.is_thin():
                    return False
        return new

    def go_on(self):
        """Mix the duals by what was seen and look again; tell whether any was new."""
        self.lattice = shorter(self.lattice, self.many, self.spots)
        return self.look_at_all()

    def middle(self):
        """A point of the lattice near the middle of what was seen."""
        return middle_point(self.lattice, self.many, self.spots)
