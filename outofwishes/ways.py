"""The ways through a program, each as a system."""

from outofwishes.errors import BadProgram
from outofwishes.programs import Program, trail
from outofwishes.putting import put_in_test
from outofwishes.statements import inner_of
from outofwishes.terms import less, sum_of, told_term, turned
from outofwishes.wishes import System


def check_program(program):
    """Raise BadProgram for what is no Program."""
    if not isinstance(program, Program):
        raise BadProgram(program)


class Trip:
    """A part of a way: the names known, what is said of them, the steps taken, and the statement that is come to."""

    def __init__(self, known, said, taken, there):
        self.known = known
        self.said = said
        self.taken = taken
        self.there = there

    def onward(self, names, bodies, steps, there):
        """The trip with more names, bodies and steps, to a statement."""
        return Trip(self.known + names, self.said + bodies, self.taken + steps, there)

    def whole_system(self):
        """The system of the numbers by which one goes this way."""
        return System(self.known, self.said)

    def told_end(self):
        """The told terms of the give that is come to, None if it is a none."""
        if self.there[0] == "none":
            return None
        return [told_term(term) for term in self.there[1]]


def _beside(name, term):
    """A name less a term."""
    return sum_of([({name: 1}, 0), turned(term)])


def let_bodies(name, number, term):
    """What says that a name is a term, divided and rounded down."""
    above = sum_of([term, ({name: -number}, 0)])
    return [("row", above), ("row", less(turned(above), 1 - number))]


def most_bodies(name, terms):
    """What says that a name is the greatest of some terms."""
    rows = [("row", _beside(name, term)) for term in terms]
    return rows + [("any", [("same", _beside(name, term)) for term in terms])]


def _failed(statement, number):
    """What says that of a first one a number is tried and fails."""
    put = {statement[1]: ({}, number)}
    return ("not", ("all", [put_in_test(test, put) for test in statement[3]]))


def _first_bodies(statement, number):
    """What says that a first one takes a number."""
    same = ("same", ({statement[1]: 1}, -number))
    return [same] + [_failed(statement, below) for below in range(number)] + list(statement[3])


def _onward(trip):
    """The pairs of a turn and the trip with one statement more, in the order of the ways; none from a give or none."""
    statement = trip.there
    kind = statement[0]
    if kind in ("give", "none"):
        return []
    if kind == "if":
        denied = ("not", statement[1])
        return [(0, trip.onward([], [statement[1]], 1, statement[2])), (1, trip.onward([], [denied], 1, statement[3]))]
    name = statement[1]
    if kind == "let":
        return [(0, trip.onward([name], let_bodies(name, statement[2], statement[3]), 1, statement[4]))]
    if kind == "most":
        return [(0, trip.onward([name], most_bodies(name, statement[2]), 1, statement[3]))]
    count = statement[2]
    found = []
    for number in range(count):
        found.append((0, trip.onward([name], _first_bodies(statement, number), number + 1, statement[4])))
    failed = [_failed(statement, number) for number in range(count)]
    return found + [(1, trip.onward([], failed, count, statement[5]))]


def _first_trip(program):
    """The trip that has come to the whole program and no farther."""
    return Trip(program.inputs(), [], 0, program.statement())


def trips_of(program):
    """The trips of all ways to some give or none, in the order of the ways."""
    found = []
    ahead = [_first_trip(program)]
    while len(ahead) > 0:
        trip = ahead.pop()
        further = _onward(trip)
        if len(further) == 0:
            found.append(trip.onward([], [], 1, trip.there))
        for _, one in reversed(further):
            ahead.append(one)
    return found


def trips_to(program, place):
    """The trips of all ways down to a place of a program, in the order of the ways."""
    found = [_first_trip(program)]
    for turn in place:
        found = [one for trip in found for to, one in _onward(trip) if to == turn]
    return found


def ways(program):
    """The triples of the system, the steps and the end of all ways through a program, as one goes down."""
    check_program(program)
    return [(trip.whole_system(), trip.taken, trip.told_end()) for trip in trips_of(program)]


def _many_ways(statement):
    """How many ways a statement has."""
    inner = [_many_ways(one) for one, _ in inner_of(statement, [])]
    if len(inner) == 0:
        return 1
    if statement[0] == "first":
        return statement[2] * inner[0] + inner[1]
    return sum(inner)


def way_at(program, given):
    """The pair of the index of the one way that has a point with these inputs, and this point."""
    found = trail(program, given)
    statement = program.statement()
    index = 0
    for at in range(1, len(found)):
        place, numbers = found[at]
        inner = [one for one, _ in inner_of(statement, [])]
        if statement[0] == "first":
            tried = numbers[statement[1]] if place[-1] == 0 else statement[2]
            index += tried * _many_ways(inner[0])
        elif place[-1] == 1:
            index += _many_ways(inner[0])
        statement = inner[place[-1]]
    return (index, found[-1][1])
