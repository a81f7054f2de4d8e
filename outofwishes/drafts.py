"""Drafts: what a statement sets on its way down, one behind another, and what it asks there."""

from math import gcd

from outofwishes.bodies import names_of_bodies
from outofwishes.seeking import coefficient_in, settled
from outofwishes.terms import names_of, scaled, told_term, turned
from outofwishes.ways import let_bodies, most_bodies
from outofwishes.wholes import point_of
from outofwishes.wishes import System

# How many lists of failed tests are thought of where something is asked; of more it is decided too slowly.
FEW_FAILED = 2


def _bodies_of(part):
    """What says what the name is that a part sets."""
    if part[0] == "let":
        return let_bodies(part[1], part[2], part[3])
    return most_bodies(part[1], part[2])


def _unlike(terms):
    """Terms, of those with the same coefficients the greatest alone."""
    found = []
    for term in terms:
        same = [other for other in terms if other[0] == term[0]]
        if term not in found and term[1] == max([other[1] for other in same]):
            found.append(term)
    return found


class Draft:
    """The lets and mosts of a statement, as parts without what stands in them.

    barred are the names, the inputs among them, that cannot be set; granted are tests that are so, failed are lists of
    tests that are not all so.
    """

    def __init__(self, barred, parts, granted, failed):
        self.barred = barred
        self.parts = parts
        self.granted = granted
        self.failed = failed

    def twin(self):
        """The same draft, to be gone on with by itself."""
        return Draft(self.barred, list(self.parts), self.granted, self.failed)

    def with_granted(self, name, tests):
        """The draft gone on with where some tests are so, and a name cannot be set any more."""
        return Draft(self.barred + [name], list(self.parts), self.granted + tests, self.failed)

    def with_failed(self, tests):
        """The draft gone on with where some tests are not all so."""
        return Draft(self.barred, list(self.parts), self.granted, self.failed + [tests])

    def new_name(self, letter):
        """The first name of a letter and a number that can be set at the end."""
        taken = self.barred + [part[1] for part in self.parts]
        at = 0
        while letter + str(at) in taken:
            at += 1
        return letter + str(at)

    def _set(self, letter, part):
        """The term of the name that a part sets, told without it; it is set at the end if it is not known yet."""
        for known in self.parts:
            if known[:1] + known[2:] == part:
                return ({known[1]: 1}, 0)
        name = self.new_name(letter)
        self.parts.append(part[:1] + (name,) + part[1:])
        return ({name: 1}, 0)

    def over(self, term, number):
        """A term of what is known, over a number from 1 on, rounded down."""
        divisor = number
        for name in names_of(term):
            divisor = gcd(divisor, term[0][name])
        term = told_term(({name: term[0][name] // divisor for name in term[0]}, term[1] // divisor))
        return term if number == divisor else self._set("q", ("let", number // divisor, term))

    def greatest(self, terms):
        """The greatest of terms of what is known."""
        terms = _unlike(terms)
        return terms[0] if len(terms) == 1 else self._set("m", ("most", terms))

    def end_of(self, rows, name, side):
        """The least number that the lower rows let a name have (side 1), or the greatest by the upper ones (-1)."""
        groups = {}
        for row in rows:
            part = coefficient_in(row, name) * side
            if part > 0:
                rest = ({other: row[1][0][other] for other in row[1][0] if other != name}, row[1][1])
                groups.setdefault(part, []).append(turned(rest))
        terms = list(groups.get(1, []))
        for part in groups:
            if part > 1:
                terms.append(turned(self.over(turned(self.greatest(groups[part])), part)))
        return scaled(self.greatest(terms), side)

    def _can_be(self, bodies):
        """Whether bodies can be so at some inputs."""
        said = self.granted + [("not", ("all", tests)) for tests in self.failed[-FEW_FAILED:]] + bodies
        names = names_of_bodies(said)
        for part in reversed(self.parts):
            if part[1] in names:
                said = _bodies_of(part) + said
                names = names_of_bodies(said)
        return point_of(System(names, said)) is not None

    def asked(self, tests):
        """Tests without those that are sure where the others are so; None if they never are so together."""
        tests = settled(tests)
        if tests is None or not self._can_be(tests):
            return None
        for test in list(tests):
            others = [other for other in tests if other != test]
            if not self._can_be(others + [("not", test)]):
                tests = others
        return tests


def in_parts(parts, statement):
    """A statement behind lets and mosts."""
    for part in reversed(parts):
        statement = part + (statement,)
    return statement


def if_all(tests, name, statement, other):
    """A statement where all of some tests are so, else the other one; the name is set where several are asked."""
    if len(tests) == 0:
        return statement
    if len(tests) == 1:
        return ("if", tests[0], statement, other)
    return ("first", name, 1, tests, statement, other)
