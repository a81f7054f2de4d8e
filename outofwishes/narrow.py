"""Tests without anys: a whole point, or a proof that there is none."""

from outofwishes.lattices import narrowed
from outofwishes.proofs import leaf, needs_some, span
from outofwishes.strips import MOST_ROUNDS, Thinning
from outofwishes.vectors import Fact, dot, stepped


def growing(tableau, rows, many):
    """The pair of a ray along which no row falls and as many as can be grow, and the rows that do not."""
    flat_out = tableau.without_constants()
    ray = [0] * many
    still = rows
    while len(still) > 0:
        down = [0] * many
        for row in still:
            down = stepped(down, -1, row.vector)
        end = flat_out.lowest_of(down)
        if end.ray is None:
            break
        ray = stepped(ray, 1, end.ray)
        still = [row for row in still if dot(row.vector, end.ray) == 0]
    return (ray, still)


def far_point(point, ray, rows):
    """A point moved along a ray till no row is below 0; each row that is below 0 grows along it."""
    times = 0
    for row in rows:
        value = dot(row.vector, point) + row.constant
        if value < 0:
            times = max(times, -(value // dot(row.vector, ray)))
    return stepped(point, times, ray)


class Narrowing:
    """The search for a point of tests of which a lattice and a tableau are known; period divides all m of them."""

    def __init__(self, lattice, tableau, rows, period, marks):
        many = len(lattice.point)
        ray, self.held = growing(tableau, rows, many)
        self.ray = [number * period for number in ray]
        self.rows = rows
        self.marks = marks
        self.lattice = lattice
        self.tableau = tableau

    def run(self):
        """The pair of a point and None, or None and a proof."""
        lattice = self.lattice
        many = 0
        for row in self.held:
            changes = [dot(row.vector, step) for step in lattice.steps]
            lattice, _, at = lattice.pivoted(changes, many)
            if at is not None:
                lattice = lattice.with_first(at, many)
                many += 1
        return self._narrow(lattice, many, self.tableau)

    def _is_held(self, point):
        """Whether no row that does not grow is below 0 at a point."""
        return all([dot(row.vector, point) + row.constant >= 0 for row in self.held])

    def _thin(self, lattice, many, tableau):
        """The pair of a point and None, or None and a search that has a thin strip."""
        thinning = Thinning(tableau, lattice, many)
        new = thinning.look_at_all()
        rounds = 0
        while not thinning.is_thin():
            point = thinning.middle()
            if self._is_held(point):
                return (point, None)
            if not new or rounds == MOST_ROUNDS:
                break
            new = thinning.go_on()
            rounds += 1
        return (None, thinning)

    def _narrow(self, lattice, many, tableau):
        """The pair of a point and None, or None and a proof; the first so many steps change the rows that are held."""
        if many == 0:
            return (far_point(lattice.point, self.ray, self.rows), None)
        point, thinning = self._thin(lattice, many, tableau)
        if point is not None:
            return (far_point(point, self.ray, self.rows), None)
        strip, lattice = thinning.best, thinning.lattice
        mark = self.marks.fresh()
        proofs = {}
        for turn in range(strip.many):
            value = strip.value(turn)
            fact = Fact(mark, "same", 0, strip.vector, -value)
            inner = tableau.twin()
            inner.take(fact)
            inner.settle()
            point, proof = self._narrow(narrowed(lattice, fact)[0], many - 1, inner)
            if point is not None or not needs_some(proof, [mark]):
                return (point, proof)
            proofs[value] = proof
        return (None, span(mark, strip.vector, strip.low, strip.high, self._all_proofs(lattice, mark, strip, proofs)))

    def _all_proofs(self, lattice, mark, strip, proofs):
        """The proofs for all values of a strip: those found, and gauges for the values beside the lattice."""
        found = []
        for value in range(strip.lowest, strip.highest + 1):
            if value in proofs:
                found.append(proofs[value])
            else:
                fact = Fact(mark, "same", 0, strip.vector, -value)
                found.append(leaf("gauge", narrowed(lattice, fact)[1]))
        return found
