"""Which statements of a program are come to, and papers for those that never are."""

from outofwishes.programs import places, statement_at, trail
from outofwishes.together import inputs_of_some, papers_of_all
from outofwishes.ways import trips_to


def comings(program, place):
    """The systems of all ways down to a place that go no farther, in the order of the ways."""
    # Asked for its errors alone.
    statement_at(program, place)
    return [trip.whole_system() for trip in trips_to(program, place)]


def comes_to(program, place):
    """Inputs that come to a place, None if the statement there is dead."""
    systems = comings(program, place)
    return inputs_of_some(systems, program.inputs())


def dead_papers(program, place):
    """A paper for each of comings, None if some inputs come to the place."""
    return papers_of_all(comings(program, place))


def dead_places(program):
    """The places of all dead statements that stand in no dead one, in order."""
    lively = {}
    dead = []
    for place in places(program):
        if tuple(place) in lively or any([place[:len(above)] == above for above in dead]):
            continue
        given = comes_to(program, place)
        if given is None:
            dead.append(place)
        else:
            # Whoever comes here comes to other places, too, which need not be asked for.
            for passed, _ in trail(program, given):
                lively[tuple(passed)] = True
    return dead
