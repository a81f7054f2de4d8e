"""How many steps a program ever takes, and papers that it takes no more."""

from outofwishes.errors import BadNumber
from outofwishes.kinds import is_whole
from outofwishes.together import inputs_of_some, papers_of_all
from outofwishes.ways import check_program, trips_of


def longer(program, number):
    """The systems of all ways that take more steps than a number, in order."""
    check_program(program)
    if not is_whole(number) or number < 0:
        raise BadNumber(number)
    return [trip.whole_system() for trip in trips_of(program) if trip.taken > number]


def takes_more(program, number):
    """Inputs for which the program takes more steps than a number, None if there are none."""
    systems = longer(program, number)
    return inputs_of_some(systems, program.inputs())


def steps_papers(program, number):
    """A paper for each of longer, None if some inputs take more steps than the number."""
    return papers_of_all(longer(program, number))


def greatest_steps(program):
    """The pair of the greatest number of steps that are ever taken, and inputs that take so many."""
    check_program(program)
    trips = trips_of(program)
    for number in reversed(sorted({trip.taken for trip in trips})):
        systems = [trip.whole_system() for trip in trips if trip.taken == number]
        given = inputs_of_some(systems, program.inputs())
        # Some way is always gone, so this is so for some number.
        if given is not None:
            return (number, given)
    return None
