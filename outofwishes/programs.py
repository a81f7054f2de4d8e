"""Programs: one statement that comes to integers for the outputs, or to none."""

from outofwishes.bodies import is_test_so
from outofwishes.errors import BadGiven, BadPlace, BadProgram, BadStatement
from outofwishes.kinds import check_inputs_outputs, is_list, is_numbers_of, is_whole, told_numbers
from outofwishes.statements import bad_place, inner_of, told_statement, visits
from outofwishes.terms import value_of


class Program:
    """A statement that takes inputs and gives outputs, or none."""

    def __init__(self, inputs, outputs, statement):
        check_inputs_outputs(inputs, outputs)
        place = bad_place(statement, inputs, outputs)
        if place is not None:
            raise BadStatement(place)
        self._inputs = list(inputs)
        self._outputs = list(outputs)
        self._statement = told_statement(statement)

    def __eq__(self, other):
        return (
            isinstance(other, Program)
            and self._inputs == other._inputs
            and self._outputs == other._outputs
            and self._statement == other._statement
        )

    def inputs(self):
        """The list of the inputs, as passed."""
        return list(self._inputs)

    def outputs(self):
        """The list of the outputs, as passed."""
        return list(self._outputs)

    def statement(self):
        """The statement, told."""
        return told_statement(self._statement)


def is_statement(inputs, outputs, thing):
    """Whether any object is a statement for these inputs and outputs."""
    check_inputs_outputs(inputs, outputs)
    return bad_place(thing, inputs, outputs) is None


def _visits_of(program):
    """All triples of a place, what stands there and the names known there, in order."""
    if not isinstance(program, Program):
        raise BadProgram(program)
    return visits(program.statement(), program.inputs())


def places(program):
    """The list of all places of a program, in order."""
    return [visit[0] for visit in _visits_of(program)]


def _visit_at(program, place):
    """The pair of what stands at a place and the names known there, both new."""
    if not isinstance(program, Program):
        raise BadProgram(program)
    if not is_list(place):
        raise BadPlace(place)
    there = program.statement()
    known = program.inputs()
    for turn in place:
        inner = inner_of(there, known)
        if not is_whole(turn) or turn < 0 or turn >= len(inner):
            raise BadPlace(place)
        there, known = inner[turn]
    return (there, known)


def statement_at(program, place):
    """The statement that stands at a place."""
    return _visit_at(program, place)[0]


def known_at(program, place):
    """The list of the names known at a place, the inputs first, then from above."""
    return _visit_at(program, place)[1]


def _first_tried(statement, numbers):
    """The first number that a first one takes, None if it finds none."""
    for number in range(statement[2]):
        tried = {**numbers, statement[1]: number}
        if all([is_test_so(test, tried) for test in statement[3]]):
            return number
    return None


def _turn_from(statement, numbers):
    """The triple of the turn that is taken, the numbers there, and the steps that this takes."""
    kind = statement[0]
    if kind == "if":
        return (0 if is_test_so(statement[1], numbers) else 1, numbers, 1)
    name = statement[1]
    if kind == "let":
        return (0, {**numbers, name: value_of(statement[3], numbers) // statement[2]}, 1)
    if kind == "most":
        return (0, {**numbers, name: max([value_of(term, numbers) for term in statement[2]])}, 1)
    number = _first_tried(statement, numbers)
    if number is None:
        return (1, numbers, statement[2])
    return (0, {**numbers, name: number}, number + 1)


def _walk(program, given):
    """The triple of the trail of a program, its steps, and the statement at the end of it."""
    if not isinstance(program, Program):
        raise BadProgram(program)
    if not is_numbers_of(given, program.inputs()):
        raise BadGiven(given)
    there = program.statement()
    numbers = told_numbers(given)
    place = []
    found = [(place, numbers)]
    many = 0
    while there[0] not in ("give", "none"):
        turn, numbers, taken = _turn_from(there, numbers)
        there = inner_of(there, [])[turn][0]
        place = place + [turn]
        found.append((place, told_numbers(numbers)))
        many += taken
    return (found, many + 1, there)


def run(program, given):
    """The answer for a dict from just all inputs to integers: the outputs' integers, None for none."""
    found, _, last = _walk(program, given)
    if last[0] == "none":
        return None
    numbers = found[-1][1]
    outputs = program.outputs()
    return told_numbers({name: value_of(term, numbers) for name, term in zip(outputs, last[1])})


def steps(program, given):
    """How many steps a program takes."""
    return _walk(program, given)[1]


def trail(program, given):
    """The list of the pairs of a place that is come to and the numbers of all names known there."""
    return _walk(program, given)[0]


def most_by_text(program):
    """The pair of the greatest number of steps on a way down, and the first place where such a way ends."""
    most = 0
    first = []
    counted = {}
    for place, there, _ in _visits_of(program):
        own = there[2] if there[0] == "first" else 1
        # A place is behind the one above it, so that one is counted already.
        many = own if len(place) == 0 else counted[tuple(place[:-1])] + own
        counted[tuple(place)] = many
        if there[0] in ("give", "none") and many > most:
            most = many
            first = place
    return (most, first)
